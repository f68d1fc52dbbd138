/- The least stack: powers; wheels alike. -/
import Derived.Test.YtobephnmbpoopaaLsM
import Derived.Test.YtobephnmbpoopaaBase
namespace Go.Proofs.Ytobephnmbpoopaa
open Go.RowKit
set_option linter.unusedVariables false
set_option linter.unusedSimpArgs false
theorem powB {b : Int} (hb : 2 ≤ b ∧ b ≤ 100) : ∀ k : Nat, k ≤ 8 → 1 ≤ b ^ k ∧ b ^ k ≤ 100 ^ k
  | 0, _ => by simp
  | k + 1, h => by
    have := powB hb k (by omega)
    rw [Int.pow_succ, Int.pow_succ]
    constructor
    · have := Int.mul_le_mul this.1 (show (1 : Int) ≤ b by omega) (by omega) (by omega); omega
    · exact Int.mul_le_mul this.2 hb.2 (by omega) (by have : (0 : Int) ≤ 100 ^ k := Int.le_trans (by omega) this.2; exact this)
theorem powW {b : Int} (hb : 2 ≤ b ∧ b ≤ 100) {k : Nat} (hk : k ≤ 8) : 1 ≤ b ^ k ∧ b ^ k ≤ 10000000000000000 := ⟨(powB hb k hk).1, Int.le_trans (powB hb k hk).2 (pow_bd k hk)⟩
set_option maxRecDepth 100000 in
set_option maxHeartbeats 1000000 in
theorem power_any (b : Int) (hb : 2 ≤ b ∧ b ≤ 100) (n : Nat) (hn : n ≤ 8) (w : World) : Calls Try.prog 15 #[.int .i64 b, .int .i64 (n : Int)] w fun e w' => e = .returned (.int .i64 (b ^ n)) ∧ w' = w := by
  have HB := hid hb
  clear hb
  go_enter Try.func15, Try.ntmps15
  go_wp2_with fail
  go_loopw [5, 7] (fun p i wr => ∃ (k : Nat) (P : Int), k ≤ n ∧ i = .int .i64 k ∧ .int .i64 P = p ∧ P = b ^ k ∧ wr = w) (fun _ i _ => n - (intOf i).toNat)
  case atStart => exact ⟨0, 1, Nat.zero_le _, rfl, rfl, by simp, rfl⟩
  case round =>
    obtain ⟨k, P, hk, rfl, rfl, hP, rfl⟩ := hrel
    by_cases hkn : k < n
    · have k1 : (k : Int) < (n : Int) := by omega
      have w1' : IntKind.i64.wrap ((k : Int) + 1) = (k : Int) + 1 := IntWalk.i64_in _ (by omega)
      have hb2 : P * b = b ^ (k + 1) := by rw [hP, Int.pow_succ]
      have hbd := powW HB.out (k := k + 1) (by omega)
      rw [← hb2] at hbd
      have wm : IntKind.i64.wrap (P * b) = P * b := IntWalk.i64_in _ (by omega)
      have HP2 := hid hb2
      clear hP hb2 hbd
      go_wp2_with fail
      go_roundw
      case rel => exact ⟨k + 1, P * b, by omega, by go_num, rfl, HP2.out, by first | rfl | trivial⟩
      case measure => simp [intOf]; omega
    · obtain rfl : k = n := by omega
      have k1 : ¬ (k : Int) < (k : Int) := by omega
      have HP := hid hP
      clear hP
      go_wp2_with fail
      go_ret
      exact ⟨by rw [HP.out]; rfl, rfl⟩
set_option maxRecDepth 100000 in
set_option maxHeartbeats 1000000 in
theorem l01Alike_any (b : Int) (hb : 2 ≤ b ∧ b ≤ 100) (n : Nat) (hn : n ≤ 8) (w : World) : Calls Try.prog 18 #[.int .i64 b, .int .i64 (n : Int)] w fun e w' => ∃ v, e = .returned v ∧ w'.ownsRow w.heap.size 5 1 v n ((List.replicate n b).map (Value.int .u8)) ∧ Below w.heap.size w w' := by
  obtain ⟨i0, hi0, iz0, iz1, iz2⟩ := info_parts Try.infoU8
  have wb : IntKind.u8.wrap b = b := by simp only [IntKind.wrap, IntKind.signed, IntKind.bits]; simp; omega
  have HONE := hid (show ∀ u ∈ ([.int .u8 b] : List Value), u.oneCell' = true from by intro u hu; simp at hu; subst hu; rfl)
  clear hb
  go_enter Try.func18, Try.ntmps18
  go_wp2_with fail
  go_loopw [5, 6] (fun s5 i wr => ∃ (k : Nat) (v : Value), k ≤ n ∧ i = .int .i64 k ∧ v = s5 ∧ wr.ownsRow w.heap.size 5 1 v k ((List.replicate k b).map (Value.int .u8)) ∧ Below w.heap.size w wr) (fun _ i _ => n - (intOf i).toNat)
  case atStart => exact ⟨0, _, Nat.zero_le _, rfl, rfl, World.ownsRow_made _ _ 0 (Nat.le_refl _) (by decide) rfl, (Below.refl _ _).alloc (Nat.le_refl _) _⟩
  case round =>
    obtain ⟨k, v, hk, rfl, rfl, hO, hB⟩ := hrel
    by_cases hkn : k < n
    · have k1 : (k : Int) < (n : Int) := by omega
      have w1' : IntKind.i64.wrap ((k : Int) + 1) = (k : Int) + 1 := IntWalk.i64_in _ (by omega)
      have HO4 := hid (hO.alloc (.cells #[.int .u8 b] 5))
      have nc := hid (show ∀ j u, ([.int .u8 b] : List Value)[j]? = some u → (wr.alloc (.cells #[.int .u8 b] 5)).cell? ((⟨wr.heap.size, 0, none⟩ : Addr).add j) = some u from fun j u hj => by
        have h := (Row.new wr 5 [.int .u8 b]).cell j
        rw [show (⟨wr.heap.size, 0, none⟩ : Addr).add j = ⟨wr.heap.size, j, none⟩ from by unfold Addr.add; split <;> simp_all]
        exact h.trans hj)
      have HB7 := hid (show Below w.heap.size w (wr.alloc (.cells #[.int .u8 b] 5)) from hB.alloc hB.size _)
      have HBW := hid (show w.heap.size ≤ (wr.alloc (.cells #[.int .u8 b] 5)).heap.size by simp; have := hB.size; omega)
      clear hO hB
      go_wp2_with (at_builtin; refine wpList_append_own _ rfl _ _ 26 rfl w.heap.size 5 i0 (.int .u8 0) 1 1 Try.underlying26 hi0 iz0 iz1 iz2 rfl (by decide) _ _ _ rfl HO4.out ⟨wr.heap.size, 0, none⟩ 1 1 ([.int .u8 b] : List Value) rfl rfl nc.out HONE.out (by unfold maxLen; omega) (by omega) HBW.out ?_; rintro v' w7 hown' hgrow -; have OWN := hid hown'; have GRW := hid hgrow; clear hown' hgrow)
      have bel := HB7.out.grown GRW.out HBW.out (fun kk e => by have := (HO4.out.lt kk e).1; omega)
      have OW := OWN.out
      rw [show (List.replicate k b).map (Value.int .u8) ++ [.int .u8 b] = (List.replicate (k + 1) b).map (Value.int .u8) from by rw [List.replicate_succ', List.map_append]; rfl] at OW
      have HOW := hid OW
      have HBE := hid bel
      clear bel OW
      go_roundw
      case rel => exact ⟨k + 1, v', by omega, by go_num, rfl, HOW.out, HBE.out⟩
      case measure => simp [intOf]; omega
    · obtain rfl : k = n := by omega
      have k1 : ¬ (k : Int) < (k : Int) := by omega
      have HO := hid hO; have HB := hid hB
      clear hO hB
      go_wp2_with fail
      go_ret
      exact ⟨v, rfl, by first | exact HO.out | (have h := HO.out; rw [List.map_replicate] at h; exact h), HB.out⟩
end Go.Proofs.Ytobephnmbpoopaa
