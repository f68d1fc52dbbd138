/- Intervals and flows, the program's: days, the way, the least and the greatest count, what is possible, which readings and flows are valid. -/
import Derived.Test.YtofpgkbcodopiaaMgP
import Derived.Test.YtofpgkbcodopiaaValue
import Derived.Test.YtofpgkbcodopiaaFloor
import Derived.Test.YtofpgkbcodopiaaOpenR
import Derived.Deep.RegionHeld3
namespace Go.Proofs.Ytofpgkbcodopiaa
open Go.RowKit

/-- an interval: a reading and a later one -/
def ivV (a u b v : Int) : Value := .agg #[.int .i64 a, .int .i64 u, .int .i64 b, .int .i64 v]
theorem box4_bel (w : World) (T : TypeId) (x y z u : Value) : Below w.heap.size w (w.alloc (.cells #[x, y, z, u] T)) := (Below.refl _ w).alloc (Nat.le_refl _) _
theorem days_any (a u b v : Int) (h : -9000000000000000000 ≤ b - a ∧ b - a ≤ 9000000000000000000) (w : World) :
    Calls Try.prog 21 #[.agg #[.int .i64 a, .int .i64 u, .int .i64 b, .int .i64 v]] w (GivesB w (.int .i64 (b - a))) := by
  have bel := hid (box4_bel w 56 (.int .i64 a) (.int .i64 u) (.int .i64 b) (.int .i64 v))
  go_enter Try.func21, Try.ntmps21
  go_wp2
  go_ret
  exact ⟨rfl, bel.out⟩
theorem way_any (a u b v : Int) (h : -9000000000000000000 ≤ v - u ∧ v - u ≤ 9000000000000000000) (w : World) :
    Calls Try.prog 35 #[.agg #[.int .i64 a, .int .i64 u, .int .i64 b, .int .i64 v]] w (GivesB w (.int .i64 (v - u))) := by
  have bel := hid (box4_bel w 56 (.int .i64 a) (.int .i64 u) (.int .i64 b) (.int .i64 v))
  go_enter Try.func35, Try.ntmps35
  go_wp2
  go_ret
  exact ⟨rfl, bel.out⟩
set_option maxHeartbeats 1000000 in
theorem leastFrom_any (bS n cap : Nat) (zs : List Int) (hn : n = zs.length) (hv : okL zs = true) (a u b v low : Int) (h : -1000000000000 ≤ v - u ∧ v - u ≤ 1000000000000) (hl : 0 ≤ low ∧ low ≤ 1000000000000) (w : World) (hS : Stk w bS zs) :
    Calls Try.prog 20 #[.slice (some ⟨bS, 0, none⟩) n cap, .agg #[.int .i64 a, .int .i64 u, .int .i64 b, .int .i64 v], .int .i64 low] w (GivesB w (.int .i64 (lstI (szL zs) (v - u) low))) := by
  have bel := hid (box4_bel w 56 (.int .i64 a) (.int .i64 u) (.int .i64 b) (.int .i64 v))
  have Z := hid (size_any bS n cap zs hn hv)
  have HW := hid (fun w => way_any a u b v (by omega) w)
  obtain ⟨_, _, _, z1, z2⟩ := okL_out hv
  have HS := hid hS
  obtain ⟨z, hz⟩ : ∃ z, szL zs = z := ⟨_, rfl⟩
  rw [hz] at Z z1 z2 ⊢
  obtain ⟨y, hy⟩ : ∃ y, v - u = y := ⟨_, rfl⟩
  rw [hy] at HW h ⊢
  have FM := hid (fun w => floorMod_any (y - low) z (by omega) (by omega) w)
  have hm1 := Int.emod_nonneg (y - low) (show z ≠ 0 by omega)
  have hm2 := Int.emod_lt_of_pos (y - low) (show 0 < z by omega)
  unfold lstI
  obtain ⟨x, hx⟩ : ∃ x, y - low = x := ⟨_, rfl⟩
  rw [hx] at FM hm1 hm2 ⊢
  obtain ⟨r, hr⟩ : ∃ r, x % z = r := ⟨_, rfl⟩
  rw [hr] at FM hm1 hm2 ⊢
  clear hr hy hz hv hn hS
  have hx' := hid hx
  go_enter Try.func20, Try.ntmps20
  go_wp2_with fail
  refine (HW.out _).mono ?_
  rintro e w1 ⟨rfl, hB1⟩
  have b1 := hid (bel.out.trans (hB1.mono (by simp)))
  clear hB1
  go_wp2_with fail
  refine (Z.out w1 (HS.out.below b1.out HS.out.1)).mono ?_
  rintro e w2 ⟨rfl, hB2⟩
  have b2 := hid (b1.out.trans (hB2.mono b1.out.size))
  clear hB2
  go_wp2_with fail
  refine (FM.out _).mono ?_
  rintro e w3 ⟨rfl, rfl⟩
  go_wp2_with fail
  go_ret
  exact ⟨rfl, b2.out⟩
set_option maxHeartbeats 1000000 in
theorem greatestTo_any (bS n cap : Nat) (zs : List Int) (hn : n = zs.length) (hv : okL zs = true) (a u b v low : Int) (h : -1000000000000 ≤ v - u ∧ v - u ≤ 1000000000000) (hl : 0 ≤ low ∧ low ≤ 1000000000000) (w : World) (hS : Stk w bS zs) :
    Calls Try.prog 22 #[.slice (some ⟨bS, 0, none⟩) n cap, .agg #[.int .i64 a, .int .i64 u, .int .i64 b, .int .i64 v], .int .i64 low] w (GivesB w (.int .i64 (gstI (szL zs) (v - u) low))) := by
  have bel := hid (box4_bel w 56 (.int .i64 a) (.int .i64 u) (.int .i64 b) (.int .i64 v))
  have Z := hid (size_any bS n cap zs hn hv)
  have HW := hid (fun w => way_any a u b v (by omega) w)
  obtain ⟨_, _, _, z1, z2⟩ := okL_out hv
  have HS := hid hS
  obtain ⟨z, hz⟩ : ∃ z, szL zs = z := ⟨_, rfl⟩
  rw [hz] at Z z1 z2 ⊢
  obtain ⟨y, hy⟩ : ∃ y, v - u = y := ⟨_, rfl⟩
  rw [hy] at HW h ⊢
  have FM := hid (fun w => floorMod_any (low - y) z (by omega) (by omega) w)
  have hm1 := Int.emod_nonneg (low - y) (show z ≠ 0 by omega)
  have hm2 := Int.emod_lt_of_pos (low - y) (show 0 < z by omega)
  unfold gstI
  obtain ⟨x, hx⟩ : ∃ x, low - y = x := ⟨_, rfl⟩
  rw [hx] at FM hm1 hm2 ⊢
  obtain ⟨r, hr⟩ : ∃ r, x % z = r := ⟨_, rfl⟩
  rw [hr] at FM hm1 hm2 ⊢
  clear hr hy hz hv hn hS
  have hx' := hid hx
  go_enter Try.func22, Try.ntmps22
  go_wp2_with fail
  refine (HW.out _).mono ?_
  rintro e w1 ⟨rfl, hB1⟩
  have b1 := hid (bel.out.trans (hB1.mono (by simp)))
  clear hB1
  go_wp2_with fail
  refine (Z.out w1 (HS.out.below b1.out HS.out.1)).mono ?_
  rintro e w2 ⟨rfl, hB2⟩
  have b2 := hid (b1.out.trans (hB2.mono b1.out.size))
  clear hB2
  go_wp2_with fail
  refine (FM.out _).mono ?_
  rintro e w3 ⟨rfl, rfl⟩
  go_wp2_with fail
  go_ret
  exact ⟨rfl, b2.out⟩
end Go.Proofs.Ytofpgkbcodopiaa
