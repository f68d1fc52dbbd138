/- How many bits a number has. -/
import Derived.Test.YtgfdfnlbkljgeaaPhA
import Derived.Laws.BitsAllLaws
import Derived.WalkSmall
import Derived.Test.YtgfdfnlbkljgeaaPopM
import Derived.Test.YtgfdfnlbkljgeaaHeld
namespace Go.Proofs.Ytgfdfnlbkljgeaa
open Go.RowKit
def sw1 (x : Int) : Int := IntKind.u64.wrap (bits .and .u64 (x / 2) 6148914691236517205 + bits .and .u64 x 6148914691236517205)
def sw2 (x : Int) : Int := IntKind.u64.wrap (bits .and .u64 (x / 4) 3689348814741910323 + bits .and .u64 x 3689348814741910323)
def sw3 (x : Int) : Int := bits .and .u64 (IntKind.u64.wrap (x / 16 + x)) 1085102592571150095
def sw4 (x : Int) : Int := IntKind.u64.wrap (x + x / 256)
def sw5 (x : Int) : Int := IntKind.u64.wrap (x + x / 65536)
def sw6 (x : Int) : Int := IntKind.u64.wrap (x + x / 4294967296)
def swOnes (x : Int) : Int := bits .and .i64 (wrap64 (sw6 (sw5 (sw4 (sw3 (sw2 (sw1 x))))))) 127
set_option maxRecDepth 100000 in
set_option maxHeartbeats 400000 in
theorem ones_any (x : Int) (w : World) (hx0 : 0 ≤ x) (_ : x ≤ 18446744073709551615) :
    Calls Try.prog 82 #[.int .u64 x] w fun e w' => e = .returned (.int .i64 (swOnes x)) ∧ w' = w := by
  go_enter Try.func82, Try.ntmps82
  go_wp2
  go_ret
  exact ⟨by unfold swOnes sw6 sw5 sw4 sw3 sw2 sw1; rfl, rfl⟩
theorem wrap_nat (a : Nat) (h : a < 18446744073709551616) : IntKind.u64.wrap (a : Int) = (a : Int) := by
  rw [IntKind.wrap_u64]; omega
theorem and127 (a : Nat) (h : a < 9223372036854775808) : bits .and .i64 (wrap64 (a : Int)) 127 = ((a % 128 : Nat) : Int) := by
  have e : wrap64 (a : Int) = (a : Int) := by unfold wrap64; omega
  rw [e]
  show IntKind.i64.wrap ((BitVec.ofInt 64 (a : Int) &&& BitVec.ofInt 64 127).toNat : Int) = _
  have h1 : (BitVec.ofInt 64 (a : Int)).toNat = a := by
    rw [BitVec.ofInt_natCast, BitVec.toNat_ofNat]; omega
  have h2 : (BitVec.ofInt 64 127).toNat = 127 := rfl
  rw [BitVec.toNat_and, h1, h2, show (127 : Nat) = 2 ^ 7 - 1 from rfl, Nat.and_two_pow_sub_one_eq_mod]
  exact IntWalk.i64_in _ (by omega)
theorem and_cast (a m : Nat) (ha : a < 18446744073709551616) (hm : m < 18446744073709551616) (k : Int) (hk : k = (m : Int)) : bits .and .u64 (a : Int) k = ((a &&& m : Nat) : Int) := by
  subst hk; exact u64_and_nat a m ha hm
theorem sw1_nat (x : Nat) (h : x < 18446744073709551616) : sw1 (x : Int) = (((x / 2 &&& 6148914691236517205) + (x &&& 6148914691236517205) : Nat) : Int) ∧ (x / 2 &&& 6148914691236517205) + (x &&& 6148914691236517205) < 18446744073709551616 := by
  have a1 : x / 2 &&& 6148914691236517205 ≤ 6148914691236517205 := Nat.and_le_right
  have a2 : x &&& 6148914691236517205 ≤ 6148914691236517205 := Nat.and_le_right
  refine ⟨?_, by omega⟩
  unfold sw1
  rw [show (x : Int) / 2 = ((x / 2 : Nat) : Int) from by omega, and_cast (x / 2) 6148914691236517205 (by omega) (by omega) (6148914691236517205 : Int) rfl, and_cast x 6148914691236517205 h (by omega) (6148914691236517205 : Int) rfl, ← Int.natCast_add, wrap_nat _ (by omega)]
theorem sw2_nat (x : Nat) (h : x < 18446744073709551616) : sw2 (x : Int) = (((x / 4 &&& 3689348814741910323) + (x &&& 3689348814741910323) : Nat) : Int) ∧ (x / 4 &&& 3689348814741910323) + (x &&& 3689348814741910323) ≤ 7378697629483820646 := by
  have a1 : x / 4 &&& 3689348814741910323 ≤ 3689348814741910323 := Nat.and_le_right
  have a2 : x &&& 3689348814741910323 ≤ 3689348814741910323 := Nat.and_le_right
  refine ⟨?_, by omega⟩
  unfold sw2
  rw [show (x : Int) / 4 = ((x / 4 : Nat) : Int) from by omega, and_cast (x / 4) 3689348814741910323 (by omega) (by omega) (3689348814741910323 : Int) rfl, and_cast x 3689348814741910323 h (by omega) (3689348814741910323 : Int) rfl, ← Int.natCast_add, wrap_nat _ (by omega)]
theorem sw3_nat (x : Nat) (h : x ≤ 7378697629483820646) : sw3 (x : Int) = ((x / 16 + x &&& 1085102592571150095 : Nat) : Int) := by
  unfold sw3
  rw [show (x : Int) / 16 + x = ((x / 16 + x : Nat) : Int) from by omega, wrap_nat _ (by omega), and_cast _ 1085102592571150095 (by omega) (by omega) (1085102592571150095 : Int) rfl]
theorem sw_ones (x : Nat) (h : x < 18446744073709551616) : swOnes (x : Int) = (popB x : Int) := by
  unfold swOnes
  obtain ⟨e1, b1⟩ := sw1_nat x h
  obtain ⟨e2, b2⟩ := sw2_nat _ b1
  have e3 := sw3_nat _ b2
  rw [e1, e2, e3, sw_lanes x h]
  obtain ⟨p0, p1, p2, p3, p4, p5, p6, p7, hp, hs, hl⟩ := pop_eight x h
  rw [hs]
  generalize lane pop8b 8 x = v at *
  clear e1 e2 e3 b1 b2 h hs
  have f4 : sw4 (v : Int) = ((v + v / 256 : Nat) : Int) := by
    unfold sw4
    rw [show (v : Int) + (v : Int) / 256 = ((v + v / 256 : Nat) : Int) from by omega, wrap_nat _ (by omega)]
  rw [f4]
  obtain ⟨u, hu⟩ : ∃ u, u = v + v / 256 := ⟨_, rfl⟩
  rw [← hu]
  have f5 : sw5 (u : Int) = ((u + u / 65536 : Nat) : Int) := by
    unfold sw5
    rw [show (u : Int) + (u : Int) / 65536 = ((u + u / 65536 : Nat) : Int) from by omega, wrap_nat _ (by omega)]
  rw [f5]
  obtain ⟨t, ht⟩ : ∃ t, t = u + u / 65536 := ⟨_, rfl⟩
  rw [← ht]
  have f6 : sw6 (t : Int) = ((t + t / 4294967296 : Nat) : Int) := by
    unfold sw6
    rw [show (t : Int) + (t : Int) / 4294967296 = ((t + t / 4294967296 : Nat) : Int) from by omega, wrap_nat _ (by omega)]
  rw [f6, and127 _ (by omega)]
  clear f4 f5 f6
  have hd0 : v / 256 = p1 + 256 * (p2 + 256 * (p3 + 256 * (p4 + 256 * (p5 + 256 * (p6 + 256 * p7))))) := by omega
  have hu' : u = (p0 + p1) + 256 * ((p1 + p2) + 256 * ((p2 + p3) + 256 * ((p3 + p4) + 256 * ((p4 + p5) + 256 * ((p5 + p6) + 256 * ((p6 + p7) + 256 * p7)))))) := by omega
  have hd1 : u / 65536 = (p2 + p3) + 256 * ((p3 + p4) + 256 * ((p4 + p5) + 256 * ((p5 + p6) + 256 * ((p6 + p7) + 256 * p7)))) := by omega
  have ht' : t = (p0 + p1 + p2 + p3) + 256 * ((p1 + p2 + p3 + p4) + 256 * ((p2 + p3 + p4 + p5) + 256 * ((p3 + p4 + p5 + p6) + 256 * ((p4 + p5 + p6 + p7) + 256 * ((p5 + p6 + p7) + 256 * ((p6 + p7) + 256 * p7)))))) := by omega
  have hd2 : t / 4294967296 = (p4 + p5 + p6 + p7) + 256 * ((p5 + p6 + p7) + 256 * ((p6 + p7) + 256 * p7)) := by omega
  clear hu hd0 hu' hd1 ht hl
  rw [hd2, ht']
  clear hd2 ht'
  omega
theorem popB_le (x : Nat) (h : x < 18446744073709551616) : popB x ≤ 64 := by
  obtain ⟨p0, p1, p2, p3, p4, p5, p6, p7, hp, hs, _⟩ := pop_eight x h
  omega
/-- how many digits are among marks -/
def cntM (x y : Int) : Int := (popB x.toNat : Int) + (popB y.toNat : Int)
theorem cntM_bd {x y : Int} (hx : 0 ≤ x ∧ x ≤ 18446744073709551615) (hy : 0 ≤ y ∧ y ≤ 18446744073709551615) : 0 ≤ cntM x y ∧ cntM x y ≤ 128 := by
  have a := popB_le x.toNat (by omega)
  have c := popB_le y.toNat (by omega)
  unfold cntM
  omega
theorem ones_pop (x : Int) (w : World) (hx : 0 ≤ x ∧ x ≤ 18446744073709551615) :
    Calls Try.prog 82 #[.int .u64 x] w fun e w' => e = .returned (.int .i64 (popB x.toNat : Int)) ∧ w' = w := by
  have := ones_any x w hx.1 hx.2
  obtain ⟨X, rfl⟩ := Int.eq_ofNat_of_zero_le hx.1
  rw [sw_ones X (by omega)] at this
  exact this
end Go.Proofs.Ytgfdfnlbkljgeaa
