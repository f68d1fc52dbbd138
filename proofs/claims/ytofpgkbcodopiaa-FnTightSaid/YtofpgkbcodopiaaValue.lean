/- The functions that range over a stack's wheels: cycle, size, value. -/
import Derived.Deep.RegionHeld3
import Derived.Test.YtofpgkbcodopiaaMgP
import Derived.Test.YtofpgkbcodopiaaDigits
namespace Go.Proofs.Ytofpgkbcodopiaa
open Go.RowKit Go.Shelf

theorem place_any (b n cap k : Nat) (zs : List Int) (hn : n = zs.length) (h8 : n ≤ 8) (hin : inB zs n) (hk : k < n) (w : World) (hS : Stk w b zs) :
    Calls Try.prog 61 #[.slice (some ⟨b, 0, none⟩) n cap, .int .i64 (k : Int)] w fun e W' => e = .returned (.int .i64 (szL (zs.take k))) ∧ Below w.heap.size w W' :=
  callsIn_wide.1 (place_in Fence.wide 8 trivial trivial trivial rfl (by omega) b n cap k zs hn h8 hin hk w hS)

set_option maxHeartbeats 2000000 in
theorem cycle_any (b n cap k : Nat) (zs : List Int) (hn : n = zs.length) (h8 : n ≤ 8) (hin : inB zs n) (hk : k < n) (w : World) (hS : Stk w b zs) :
    Calls Try.prog 55 #[.slice (some ⟨b, 0, none⟩) n cap, .int .i64 (k : Int)] w fun e W' => e = .returned (.int .i64 (szL (zs.take (k + 1)))) ∧ Below w.heap.size w W' := by
  have hx : w.cell? ⟨b, k, none⟩ = some (.int .u8 (zs[k]?.getD 0)) := hS.2.1 k (by omega)
  have hlt := hS.1
  have hzb := hin k hk
  obtain ⟨s1, s2, s3, s4⟩ := szL_step zs k (by omega) (by omega) (fun j hj => hin j (by omega))
  have HT := hid (szL_take zs k (by omega))
  have HP := hid (fun w (hS : Stk w b zs) => place_any b n cap k zs hn h8 hin hk w hS)
  have HS := hid hS
  have HN := hid hn
  have HI := hid hin
  clear hn hin hS
  obtain ⟨p, hp⟩ : ∃ p, p = szL (zs.take k) := ⟨_, rfl⟩
  obtain ⟨z, hz⟩ : ∃ z, z = zs[k]?.getD 0 := ⟨_, rfl⟩
  rw [← hp, ← hz] at HT s3 s4
  rw [← hp] at s1 s2
  simp only [← hp] at HP
  rw [← hz] at hx hzb
  clear hp hz
  have hk1 : (0 : Int) ≤ (k : Int) := by omega
  have hk2 : (k : Int) < (n : Int) := by omega
  go_enter Try.func55, Try.ntmps55
  go_wp2_with fail
  go_region_held3 (fun w' => w'.cell? ⟨b, k, none⟩ = some (.int .u8 z)) (first | exact hx2 | exact hx)
    ((first | (go_at_call 61; have hX := HP.out w.drew (HS.out.below (Below.refl _ w).drew HS.out.1); refine hX.mono ?_; clear hX; rintro e w1 ⟨rfl, hB⟩; have hx2 := (hB.cell (p := ⟨b, k, none⟩) hlt).trans (show w.drew.cell? ⟨b, k, none⟩ = _ from hx))))
  go_wp2
  go_ret
  have hw1 : IntKind.i64.wrap z = z := IntWalk.i64_in _ (by omega)
  have hw2 : IntKind.i64.wrap (p * z) = p * z := IntWalk.i64_in _ (by omega)
  exact ⟨by show Ending.returned (.int .i64 (IntKind.i64.wrap (p * IntKind.i64.wrap z))) = _; rw [hw1, hw2, HT.out], (Below.refl _ w).drew.trans hB⟩

theorem size_any /- by Try.prog 55 -/ (b n cap : Nat) (zs : List Int) (hn : n = zs.length) (hv : okL zs = true) (w : World) (hS : Stk w b zs) :
    Calls Try.prog 50 #[.slice (some ⟨b, 0, none⟩) n cap] w fun e W' => e = .returned (.int .i64 (szL zs)) ∧ Below w.heap.size w W' := by
  obtain ⟨h1, h8, hin, _, _⟩ := okL_out hv
  obtain ⟨k, hk⟩ : ∃ k, n = k + 1 := ⟨n - 1, by omega⟩
  have hX := hid (cycle_any b n cap k zs hn (by omega) (by rw [hn]; exact hin) (by omega) w hS)
  have hT : zs.take (k + 1) = zs := by rw [← hk, hn, List.take_length]
  rw [hT] at hX
  have hk8 : k < 8 := by omega
  subst hk
  clear hn hv hS h1 hin hT h8
  go_enter Try.func50, Try.ntmps50
  go_wp2_with fail
  refine hX.out.mono ?_
  rintro e w1 ⟨rfl, hB⟩
  go_wp2_with fail
  go_ret
  exact ⟨rfl, hB⟩

attribute [local go_sem] Oper.semAt_some
theorem cell_far {W : World} {a p : Addr} {u : Value} (h : p.block ≠ a.block) : (W.setCell a u).cell? p = W.cell? p := World.cell?_of_block (Below.heap_setCell W a u p.block h)
theorem oct_get (d0 d1 d2 d3 d4 d5 d6 d7 : Int) (k : Nat) (hk : k < 8) : ([Value.int .u8 d0, .int .u8 d1, .int .u8 d2, .int .u8 d3, .int .u8 d4, .int .u8 d5, .int .u8 d6, .int .u8 d7] : List Value)[k]? = some (.int .u8 (([d0, d1, d2, d3, d4, d5, d6, d7] : List Int)[k]?.getD 0)) := by
  have h : k = 0 ∨ k = 1 ∨ k = 2 ∨ k = 3 ∨ k = 4 ∨ k = 5 ∨ k = 6 ∨ k = 7 := by omega
  rcases h with rfl | rfl | rfl | rfl | rfl | rfl | rfl | rfl <;> rfl

end Go.Proofs.Ytofpgkbcodopiaa
