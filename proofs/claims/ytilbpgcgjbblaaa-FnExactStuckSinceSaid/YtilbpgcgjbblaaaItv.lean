/- The iterator over a log's intervals: each reading but the first one, by its index, with the one before. -/
import Derived.RangeFuncNested
import Derived.RangeFuncBound
import Derived.RangeFuncCalls
import Derived.RangeFuncLeaves
import Derived.RangeFuncBox
import Derived.Shelf.Abstract
import Derived.Shelf.RegionOpen
import Derived.OwnWalkIn
import Derived.TacticsInMore
import Derived.LoopNIn
import Derived.LoopIn
import Derived.Stop.RegionWithIn
import Derived.BigRegionIn
import Derived.Sort.CutIn
import Derived.Test.YtilbpgcgjbblaaaReads
import Derived.Test.YtilbpgcgjbblaaaRoundsC
import Derived.Test.YtilbpgcgjbblaaaKeep
namespace Go.Proofs.Ytilbpgcgjbblaaa
open Go.RowKit Go.Shelf
/-- the interval that ends behind so many readings -/
def itvA (js : List (Int × Int)) (k : Nat) : Array Value := #[.int .i64 ((k : Int) + 1), .agg #[.int .i64 (rd js k), .int .i64 (rv js k), .int .i64 (rd js (k + 1)), .int .i64 (rv js (k + 1))]]

set_option linter.unusedSimpArgs false
set_option maxRecDepth 100000 in
set_option maxHeartbeats 4000000 in
theorem itv1_in (F : Fence) (m : Nat) (hf : F.fn 62) (hro : F.round = none) (hm : 1 ≤ m) (l Bs b n cap : Nat) (js : List (Int × Int)) (hn : n = js.length) (hl : n ≤ 1048576) (J Jx : List (Fin (n - 1)) → World → Prop)
    (hY : ∀ pre (x : Fin (n - 1)) W, J pre W → pre.length < n - 1 → YieldAt F (m - 1) Try.prog l (itvA js x.1) W fun e W' =>
      (e = .returned (.bool true) ∧ J (pre ++ [x]) W' ∧ KeepB (fun g => g = b ∨ g = Bs) W W') ∨ (e = .returned (.bool false) ∧ Jx (pre ++ [x]) W'))
    (hd : ∀ pre A B, J pre A → A.grownBy B none → J pre B)
    (W : World) (hBs : W.cell? ⟨Bs, 0, none⟩ = some (.slice (some ⟨b, 0, none⟩) n cap)) (hc : ∀ j, j < n → W.cell? ⟨b, j * 2, none⟩ = some (.int .i64 (rd js j)) ∧ W.cell? ⟨b, j * 2 + 1, none⟩ = some (.int .i64 (rv js j))) (h0 : J [] W) :
    CallsIn F m Try.prog 62 #[.func (.yield l) #[] #[], .pointer (some ⟨Bs, 0, none⟩)] W fun e W' => (∃ v, e = .returned v) ∧
      ((∃ ys, ys = List.finRange (n - 1) ∧ J ys W') ∨ (∃ pre, (∃ k, k ≤ n - 1 ∧ pre = (List.finRange (n - 1)).take k) ∧ Jx pre W')) := by
  have HD := hid hd
  have hC := hid hc
  have hBB := hid hBs
  clear hn hc hd hBs
  refine callsIn_of_wp Try.func62 rfl hf ?_ hro
  simp only [Try.ntmps62, List.size_toArray, List.length_cons, List.length_nil, Nat.reduceAdd, Nat.reduceSub, Array.replicate_succ, Array.replicate_zero, List.push_toArray, List.append_toArray, List.nil_append, List.cons_append]
  gi_wp2
  gi_loopw [3] (fun i wr => ∃ k c : Nat, c = k + 1 ∧ k ≤ n - 1 ∧ i = .int .i64 (c : Int) ∧ J ((List.finRange (n - 1)).take k) wr ∧ KeepB (fun g => g = b ∨ g = Bs) W wr)
    (fun i _ => n - (intOf i).toNat)
  case atStart => exact ⟨0, 1, rfl, Nat.zero_le _, rfl, h0, KeepB.refl _ _⟩
  case round =>
    obtain ⟨k, c, hck, hk, rfl, hJs, hK⟩ := hrel
    have hbx := (hK.cell (g := Bs) (.inr rfl) 0).trans hBB.out
    have HCK := hid hck
    have hc0 : (0 : Int) ≤ (c : Int) := by omega
    by_cases hlt : k < n - 1
    · have x0 := (hK.cell (g := b) (.inl rfl) (k * 2)).trans (hC.out k (by omega)).1
      have x1 := (hK.cell (g := b) (.inl rfl) (k * 2 + 1)).trans (hC.out k (by omega)).2
      have x2 := (hK.cell (g := b) (.inl rfl) (c * 2)).trans (hC.out c (by omega)).1
      have x3 := (hK.cell (g := b) (.inl rfl) (c * 2 + 1)).trans (hC.out c (by omega)).2
      obtain ⟨fn, tmps, assign, body, hy, hR⟩ := hY _ ⟨k, hlt⟩ wr.drew (HD.out _ _ _ hJs ⟨rfl, rfl, rfl, Nat.le_refl _, fun _ _ _ => rfl⟩) (by rw [finTake_length (n - 1) k hk]; exact hlt)
      have hlen := hid (finTake_succ (n - 1) k hlt)
      unfold itvA at hy
      dsimp only at hy
      rw [← hck, show ((k : Int) + 1) = (c : Int) by omega] at hy
      obtain ⟨p, hp⟩ : ∃ p, rd js k = p := ⟨_, rfl⟩
      obtain ⟨q, hq⟩ : ∃ p, rv js k = p := ⟨_, rfl⟩
      obtain ⟨u, hu⟩ : ∃ p, rd js c = p := ⟨_, rfl⟩
      obtain ⟨v, hv⟩ : ∃ p, rv js c = p := ⟨_, rfl⟩
      rw [hp] at x0 hy
      rw [hq] at x1 hy
      rw [hu] at x2 hy
      rw [hv] at x3 hy
      have hlt' : (c : Int) < (n : Int) := by omega
      have hcn : c < n := by omega
      have hkn : k < n := by omega
      have hk0 : (0 : Int) ≤ (k : Int) := by omega
      have e1 : (c : Int) - 1 = (k : Int) := by omega
      have tk : IntKind.i64.wrap (k : Int) = (k : Int) := IntWalk.i64_in _ (by omega)
      clear hp hq hu hv hck
      gi_wp2
      refine region_call (S := fun W' : World => W'.cell? ⟨Bs, 0, none⟩ = some (.slice (some ⟨b, 0, none⟩) n cap) ∧ W'.cell? ⟨b, k * 2, none⟩ = some (.int .i64 p) ∧ W'.cell? ⟨b, k * 2 + 1, none⟩ = some (.int .i64 q) ∧ W'.cell? ⟨b, c * 2, none⟩ = some (.int .i64 u) ∧ W'.cell? ⟨b, c * 2 + 1, none⟩ = some (.int .i64 v)) 12 (by kernel_rfl) (by kernel_rfl) (fun hnd => ?_)
      have hS : (fun W' : World => W'.cell? ⟨Bs, 0, none⟩ = some (.slice (some ⟨b, 0, none⟩) n cap) ∧ W'.cell? ⟨b, k * 2, none⟩ = some (.int .i64 p) ∧ W'.cell? ⟨b, k * 2 + 1, none⟩ = some (.int .i64 q) ∧ W'.cell? ⟨b, c * 2, none⟩ = some (.int .i64 u) ∧ W'.cell? ⟨b, c * 2 + 1, none⟩ = some (.int .i64 v)) wr.drew := ⟨hbx, x0, x1, x2, x3⟩
      refine anyC_takeD [12] (some 10) (i := 0) (v := ?_) (by kernel_rfl) hnd rfl rfl (by kernel_rfl) (by kernel_rfl) (by kernel_rfl) (fun _ _ _ h => h) ⟨by rfl, ?_, fun _ => rfl⟩ hS ?_
      rotate_left
      · intro w' hw'
        obtain ⟨hw1, hw2, hw3, hw4, hw5⟩ := hw'
        go_simp
        try with_reducible rfl
      simp only [Act.put, List.setIfInBounds_toArray, List.set_cons_zero, List.set_cons_succ]
      refine anyC_takeD [12] (some 11) (i := 1) (v := ?_) (by kernel_rfl) hnd rfl rfl (by kernel_rfl) (by kernel_rfl) (by kernel_rfl) (fun _ _ _ h => h) ⟨by rfl, ?_, fun _ => rfl⟩ hS ?_
      rotate_left
      · intro w' hw'
        obtain ⟨hw1, hw2, hw3, hw4, hw5⟩ := hw'
        go_simp
        try with_reducible rfl
      simp only [Act.put, List.setIfInBounds_toArray, List.set_cons_zero, List.set_cons_succ]
      refine anyC_takeD [5, 6, 11, 12] (some 12) (i := 2) (v := ?_) (by kernel_rfl) hnd rfl rfl (by kernel_rfl) (by kernel_rfl) (by kernel_rfl) (fun _ _ _ h => h) ⟨by rfl, ?_, fun _ => rfl⟩ hS ?_
      rotate_left
      · intro w' hw'
        obtain ⟨hw1, hw2, hw3, hw4, hw5⟩ := hw'
        go_simp
        try with_reducible rfl
      simp only [Act.put, List.setIfInBounds_toArray, List.set_cons_zero, List.set_cons_succ]
      refine anyC_takeD [4, 5, 6, 11, 12] (some 13) (i := 3) (v := ?_) (by kernel_rfl) hnd rfl rfl (by kernel_rfl) (by kernel_rfl) (by kernel_rfl) (fun _ _ _ h => h) ⟨by rfl, ?_, fun _ => rfl⟩ hS ?_
      rotate_left
      · intro w' hw'
        obtain ⟨hw1, hw2, hw3, hw4, hw5⟩ := hw'
        go_simp
        try with_reducible rfl
      simp only [Act.put, List.setIfInBounds_toArray, List.set_cons_zero, List.set_cons_succ]
      refine anyC_takeD [5, 6, 11, 12] (some 14) (i := 4) (v := ?_) (by kernel_rfl) hnd rfl rfl (by kernel_rfl) (by kernel_rfl) (by kernel_rfl) (fun _ _ _ h => h) ⟨by rfl, ?_, fun _ => rfl⟩ hS ?_
      rotate_left
      · intro w' hw'
        obtain ⟨hw1, hw2, hw3, hw4, hw5⟩ := hw'
        go_simp
        try with_reducible rfl
      simp only [Act.put, List.setIfInBounds_toArray, List.set_cons_zero, List.set_cons_succ]
      refine anyC_takeD [6, 11, 12] (some 15) (i := 5) (v := ?_) (by kernel_rfl) hnd rfl rfl (by kernel_rfl) (by kernel_rfl) (by kernel_rfl) (fun _ _ _ h => h) ⟨by rfl, ?_, fun _ => rfl⟩ hS ?_
      rotate_left
      · intro w' hw'
        obtain ⟨hw1, hw2, hw3, hw4, hw5⟩ := hw'
        go_simp
        try with_reducible rfl
      simp only [Act.put, List.setIfInBounds_toArray, List.set_cons_zero, List.set_cons_succ]
      refine anyC_takeD [11, 12] (some 16) (i := 6) (v := ?_) (by kernel_rfl) hnd rfl rfl (by kernel_rfl) (by kernel_rfl) (by kernel_rfl) (fun _ _ _ h => h) ⟨by rfl, ?_, fun _ => rfl⟩ hS ?_
      rotate_left
      · intro w' hw'
        obtain ⟨hw1, hw2, hw3, hw4, hw5⟩ := hw'
        go_simp
        try with_reducible rfl
      simp only [Act.put, List.setIfInBounds_toArray, List.set_cons_zero, List.set_cons_succ]
      refine anyC_takeD [9, 10, 11, 12] (some 17) (i := 7) (v := ?_) (by kernel_rfl) hnd rfl rfl (by kernel_rfl) (by kernel_rfl) (by kernel_rfl) (fun _ _ _ h => h) ⟨by rfl, ?_, fun _ => rfl⟩ hS ?_
      rotate_left
      · intro w' hw'
        obtain ⟨hw1, hw2, hw3, hw4, hw5⟩ := hw'
        go_simp
        try with_reducible rfl
      simp only [Act.put, List.setIfInBounds_toArray, List.set_cons_zero, List.set_cons_succ]
      refine anyC_takeD [9, 10, 11, 12] (some 18) (i := 8) (v := ?_) (by kernel_rfl) hnd rfl rfl (by kernel_rfl) (by kernel_rfl) (by kernel_rfl) (fun _ _ _ h => h) ⟨by rfl, ?_, fun _ => rfl⟩ hS ?_
      rotate_left
      · intro w' hw'
        obtain ⟨hw1, hw2, hw3, hw4, hw5⟩ := hw'
        go_simp
        try with_reducible rfl
      simp only [Act.put, List.setIfInBounds_toArray, List.set_cons_zero, List.set_cons_succ]
      refine anyC_takeD [10, 11, 12] (some 19) (i := 9) (v := ?_) (by kernel_rfl) hnd rfl rfl (by kernel_rfl) (by kernel_rfl) (by kernel_rfl) (fun _ _ _ h => h) ⟨by rfl, ?_, fun _ => rfl⟩ hS ?_
      rotate_left
      · intro w' hw'
        obtain ⟨hw1, hw2, hw3, hw4, hw5⟩ := hw'
        go_simp
        try with_reducible rfl
      simp only [Act.put, List.setIfInBounds_toArray, List.set_cons_zero, List.set_cons_succ]
      refine anyC_takeD [11, 12] (some 20) (i := 10) (v := ?_) (by kernel_rfl) hnd rfl rfl (by kernel_rfl) (by kernel_rfl) (by kernel_rfl) (fun _ _ _ h => h) ⟨by rfl, ?_, fun _ => rfl⟩ hS ?_
      rotate_left
      · intro w' hw'
        obtain ⟨hw1, hw2, hw3, hw4, hw5⟩ := hw'
        go_simp
        try with_reducible rfl
      simp only [Act.put, List.setIfInBounds_toArray, List.set_cons_zero, List.set_cons_succ]
      refine anyC_takeD [12] (some 21) (i := 11) (v := ?_) (by kernel_rfl) hnd rfl rfl (by kernel_rfl) (by kernel_rfl) (by kernel_rfl) (fun _ _ _ h => h) ⟨by rfl, ?_, fun _ => rfl⟩ hS ?_
      rotate_left
      · intro w' hw'
        obtain ⟨hw1, hw2, hw3, hw4, hw5⟩ := hw'
        go_simp
        try with_reducible rfl
      simp only [Act.put, List.setIfInBounds_toArray, List.set_cons_zero, List.set_cons_succ]
      refine anyC_call (by kernel_rfl) rfl (by rfl) (fun K hKK => ?_)
      go_simp
      refine hR.mono ?_
      rintro e W3 h3
      obtain ⟨bv, rfl, h3a, h3b⟩ := yield_two h3
      dsimp only
      refine hKK _ _ ?_
      refine wpAnyIn_take (i := 13) (v := ?_) hro rfl (by kernel_rfl) (by kernel_rfl) (by kernel_rfl) (fun _ _ _ h => h) ⟨Or.inl ⟨by rfl, ?_⟩, fun _ => rfl⟩ ?_
      rotate_left
      · intro w'
        go_simp
        try with_reducible rfl
      simp only [Act.put, List.setIfInBounds_toArray, List.set_cons_zero, List.set_cons_succ]
      refine wpAnyIn_done (by kernel_rfl) ?_ _
      cases bv
      · have h5 := hid (h3b rfl)
        gi_wp2
        refine bodyPost_ret (results_none rfl _ _ _) rfl ?_
        exact ⟨⟨_, rfl⟩, .inr ⟨_, ⟨k + 1, by omega, hlen.out.symm⟩, h5.out⟩⟩
      · have h5 := hid (h3a rfl)
        gi_wp2
        go_roundw
        case rel => exact ⟨k + 1, c + 1, by have := HCK.out; omega, by omega, by go_num, by rw [hlen.out]; exact h5.out.1, hK.trans h5.out.2⟩
        case measure => simp [intOf]; omega
    · obtain rfl : k = n - 1 := by omega
      have hlt' : ¬ (c : Int) < (n : Int) := by omega
      have hge : (n : Int) ≤ (c : Int) := by omega
      gi_wp2
      go_end0
      rw [finTake_all (n - 1)] at hJs
      exact ⟨⟨_, rfl⟩, .inl hJs⟩
end Go.Proofs.Ytilbpgcgjbblaaa
