/- Strings from the last one on: the iterator. -/
import Derived.Test.YtfifnngdmhdkiaaGreatDoorTxB
namespace Go.Proofs.YtfifnngdmhdkiaaGreatDoor
open Go.RowKit Go.Shelf
set_option linter.unusedSimpArgs false
set_option linter.unusedVariables false
section
def sg (zs : List ByteArray) (j : Nat) : ByteArray := zs[j]?.getD ByteArray.empty
def bsA (js : List ByteArray) (d : Nat) : Array Value := #[.int .i64 (d : Int), .string (sg js d)]
set_option maxRecDepth 100000 in
set_option maxHeartbeats 4000000 in
theorem bs1_in (F : Fence) (m : Nat) (hf : F.fn 67) (hro : F.round = none) (hm : 1 ≤ m) (l Bs b n cap : Nat) (js : List ByteArray) (hn : n = js.length) (hl : n ≤ 1048576) (J Jx : List (Fin n) → World → Prop)
    (hY : ∀ pre (x : Fin n) W, J pre W → pre.length < n → YieldAt F (m - 1) Tryz.prog l (bsA js (n - 1 - x.1)) W fun e W' =>
      (e = .returned (.bool true) ∧ J (pre ++ [x]) W' ∧ KeepB (fun g => g = b ∨ g = Bs) W W') ∨ (e = .returned (.bool false) ∧ Jx (pre ++ [x]) W'))
    (W : World) (hBs : W.cell? ⟨Bs, 0, none⟩ = some (.slice (some ⟨b, 0, none⟩) n cap)) (hc : ∀ j, j < n → W.cell? ⟨b, j, none⟩ = some (.string (sg js j))) (h0 : J [] W) :
    CallsIn F m Tryz.prog 67 #[.func (.yield l) #[] #[], .pointer (some ⟨Bs, 0, none⟩)] W fun e W' => (∃ v, e = .returned v) ∧
      ((∃ ys, ys = List.finRange n ∧ J ys W') ∨ (∃ pre, (∃ k, k ≤ n ∧ pre = (List.finRange n).take k) ∧ Jx pre W')) := by
  have hC := hid hc
  have hBB := hid hBs
  have hbx0 := hBs
  clear hn hc hBs
  refine callsIn_of_wp Tryz.func67 rfl hf ?_ hro
  simp only [Tryz.ntmps67, List.size_toArray, List.length_cons, List.length_nil, Nat.reduceAdd, Nat.reduceSub, Array.replicate_succ, Array.replicate_zero, List.push_toArray, List.append_toArray, List.nil_append, List.cons_append]
  have t0 : IntKind.i64.wrap ((n : Int) - 1) = (n : Int) - 1 := IntWalk.i64_in _ (by omega)
  gi_wp2
  clear hbx0
  gi_loopw [3] (fun i wr => ∃ (k c : Nat) (z : Int), k + c = n ∧ i = .int .i64 z ∧ z = (c : Int) - 1 ∧ J ((List.finRange n).take k) wr ∧ KeepB (fun g => g = b ∨ g = Bs) W wr)
    (fun i _ => (intOf i + 1).toNat)
  case atStart => exact ⟨0, n, (n : Int) - 1, by omega, rfl, rfl, h0, KeepB.refl _ _⟩
  case round =>
    obtain ⟨k, c, z, hkc, rfl, hz, hJs, hK⟩ := hrel
    have hbx := (hK.cell (g := Bs) (.inr rfl) 0).trans hBB.out
    have HZ := hid hz
    have HKC := hid hkc
    by_cases h0c : c = 0
    · have hzn : ¬ (0 : Int) ≤ z := by omega
      have hzn2 : z < 0 := by omega
      have hkn : k = n := by omega
      clear hz hkc
      gi_wp2
      go_end0
      rw [hkn, finTake_all n] at hJs
      exact ⟨⟨_, rfl⟩, .inl hJs⟩
    · obtain ⟨d, hd⟩ : ∃ d, c = d + 1 := ⟨c - 1, by omega⟩
      obtain rfl : z = (d : Int) := by omega
      have hdn : d < n := by omega
      have hlt : k < n := by omega
      have hd0 : (0 : Int) ≤ (d : Int) := by omega
      have hdn' : (d : Int) < (n : Int) := by omega
      have x0 := (hK.cell (g := b) (.inl rfl) d).trans (hC.out d hdn)
      obtain ⟨fn, tmps, assign, body, hy, hR⟩ := hY _ ⟨k, hlt⟩ wr hJs (by rw [finTake_length n k (by omega)]; exact hlt)
      have hlen := hid (finTake_succ n k hlt)
      unfold bsA at hy
      dsimp only at hy
      rw [show n - 1 - k = d by omega] at hy
      obtain ⟨p, hp⟩ : ∃ p, sg js d = p := ⟨_, rfl⟩
      rw [hp] at x0 hy
      have tz : IntKind.i64.wrap ((d : Int) - 1) = (d : Int) - 1 := IntWalk.i64_in _ (by omega)
      have HD := hid hd
      clear hp hz hkc hd
      gi_wp2
      refine hR.mono ?_
      rintro e W3 h3
      obtain ⟨bv, rfl, h3a, h3b⟩ := yield_two h3
      cases bv
      · have h5 := hid (h3b rfl)
        gi_wp2
        refine bodyPost_ret (results_none rfl _ _ _) rfl ?_
        exact ⟨⟨_, rfl⟩, .inr ⟨_, ⟨k + 1, by omega, hlen.out.symm⟩, h5.out⟩⟩
      · have h5 := hid (h3a rfl)
        gi_wp2
        go_roundw
        case rel => exact ⟨k + 1, d, (d : Int) - 1, by have := HKC.out; have := HD.out; omega, by first | rfl | go_num, rfl, by rw [hlen.out]; exact h5.out.1, hK.trans h5.out.2⟩
        case measure => simp [intOf] <;> omega
theorem bs_in (F : Fence) (m : Nat) (hf : F.fn 56) (hro : F.round = none) (a : Option Addr) (len cap : Nat) (w : World) :
    CallsIn F m Tryz.prog 56 #[.slice a len cap] w fun e w' => e = .returned (.func (.func 67) #[] #[.pointer (some ⟨w.heap.size, 0, none⟩)]) ∧ w' = w.alloc (.cells #[.slice a len cap] 73) := by
  refine callsIn_of_wp Tryz.func56 rfl hf ?_ hro
  simp only [Tryz.ntmps56, List.size_toArray, List.length_cons, List.length_nil, Nat.reduceAdd, Nat.reduceSub, Array.replicate_succ, Array.replicate_zero, List.push_toArray, List.append_toArray, List.nil_append, List.cons_append]
  gi_wp2
  go_ret
  exact ⟨rfl, rfl⟩
theorem bs_stops (F : Fence) (m : Nat) (hf : F.fn 67) (hro : F.round = none) (hm : 1 ≤ m) (Bs b n cap : Nat) (js : List ByteArray) (hn : n = js.length) (hl : n ≤ 1048576) (w : World) (hBs : Bs < w.heap.size) (hb : b < w.heap.size)
    (hc : w.cell? ⟨Bs, 0, none⟩ = some (.slice (some ⟨b, 0, none⟩) n cap)) (hI : ∀ j, j < n → w.cell? ⟨b, j, none⟩ = some (.string (sg js j))) :
    SeqStopsK F m Tryz.prog 67 #[.pointer (some ⟨Bs, 0, none⟩)] (fun x : Fin n => bsA js (n - 1 - x.1)) (KeepB (fun g => g = b ∨ g = Bs)) (fun ys => ys = List.finRange n)
      (fun pre => ∃ k, k ≤ n ∧ pre = (List.finRange n).take k) n w := fun l J Jx W hW hA _ hY h0 => by
  exact bs1_in F m hf hro hm l Bs b n cap js hn hl J Jx hY W ((hW.cell (p := ⟨Bs, 0, none⟩) hBs).trans hc)
    (fun j hj => (hW.cell (p := ⟨b, j, none⟩) hb).trans (hI j hj)) h0
end
end Go.Proofs.YtfifnngdmhdkiaaGreatDoor
