/- Checks of tickets: the program's and the model's; CheckOf. -/
import Derived.Test.YtcbhlljgcndhdaaGreatDoorDigits
import Derived.Laws.BitsAllLaws
import Derived.Laws.BitsLemmas
namespace Go.Proofs.YtcbhlljgcndhdaaGreatDoor
open Go.RowKit
theorem i64_and255 (n : Int) : bits .and .i64 n 255 = n % 256 := by
  have h127 : (BitVec.ofInt 64 255).toNat = 2 ^ 8 - 1 := by decide
  have key : (BitVec.ofInt 64 n &&& BitVec.ofInt 64 255).toNat = (n % ((2 ^ 64 : Nat) : Int)).toNat % 2 ^ 8 := by
    rw [BitVec.toNat_and, BitVec.toNat_ofInt, h127, Nat.and_two_pow_sub_one_eq_mod]
  show IntKind.i64.wrap ((BitVec.ofInt 64 n &&& BitVec.ofInt 64 255).toNat : Nat) = n % 256
  rw [key, IntKind.wrap_i64]
  omega
theorem oct_cells (w : World) (d0 d1 d2 d3 d4 d5 d6 d7 : Int) (k : Nat) (hk : k < 8) : (w.alloc (.cells #[.int .u8 d0, .int .u8 d1, .int .u8 d2, .int .u8 d3, .int .u8 d4, .int .u8 d5, .int .u8 d6, .int .u8 d7] 24)).cell? ⟨w.heap.size, k, none⟩ = some (.int .u8 (([d0, d1, d2, d3, d4, d5, d6, d7] : List Int)[k]?.getD 0)) := by
  have r := (Row.new w 24 [.int .u8 d0, .int .u8 d1, .int .u8 d2, .int .u8 d3, .int .u8 d4, .int .u8 d5, .int .u8 d6, .int .u8 d7]).cell k
  rw [r]
  match k, hk with
  | 0, _ | 1, _ | 2, _ | 3, _ | 4, _ | 5, _ | 6, _ | 7, _ => rfl
/-- what four bytes of the number make of the check -/
def chN (n : Int) : Int := (IntKind.u16.wrap (IntKind.u16.wrap (IntKind.u16.wrap (IntKind.u16.wrap (IntKind.u16.wrap (IntKind.u16.wrap ((259 + n % 256) * 259) + n / 256 % 256) * 259) + n / 65536 % 256) * 259) + n / 16777216 % 256))
theorem chN_spec (n : Int) : (IntKind.u16.wrap (IntKind.u16.wrap (IntKind.u16.wrap (IntKind.u16.wrap (IntKind.u16.wrap (IntKind.u16.wrap (IntKind.u16.wrap (259 + IntKind.u16.wrap (bits BinOp.and IntKind.i64 n 255)) * 259) + IntKind.u16.wrap (bits BinOp.and IntKind.i64 (n / 256) 255)) * 259) + IntKind.u16.wrap (bits BinOp.and IntKind.i64 (n / 65536) 255)) * 259) + IntKind.u16.wrap (bits BinOp.and IntKind.i64 (n / 16777216) 255))) = chN n := by
  simp only [i64_and255, chN, IntKind.wrap_u16]
  omega
/-- what the first k digits make of it -/
def chD (c : Int) (ds : List Int) : Nat → Int
  | 0 => c
  | k + 1 => IntKind.u16.wrap (IntKind.u16.wrap (chD c ds k * 259) + ds[k]?.getD 0)
theorem chD_succ (c : Int) (ds : List Int) (k : Nat) : chD c ds (k + 1) = IntKind.u16.wrap (IntKind.u16.wrap (chD c ds k * 259) + ds[k]?.getD 0) := rfl
theorem u16_bd (x : Int) : 0 ≤ IntKind.u16.wrap x ∧ IntKind.u16.wrap x ≤ 65535 := by
  rw [IntKind.wrap_u16]
  omega
theorem chN_bd (n : Int) : 0 ≤ chN n ∧ chN n ≤ 65535 := u16_bd _
theorem chD_bd (c : Int) (ds : List Int) (k : Nat) (h : 0 ≤ c ∧ c ≤ 65535) : 0 ≤ chD c ds k ∧ chD c ds k ≤ 65535 := by
  cases k with
  | zero => exact h
  | succ k => rw [chD_succ]; exact u16_bd _
/-- the check of a ticket -/
def chk (n : Int) (ds : List Int) : Int := chD (chN n) ds 8
set_option maxRecDepth 100000 in
set_option maxHeartbeats 4000000 in
theorem checkOf_any (n : Int) (d0 d1 d2 d3 d4 d5 d6 d7 : Int) (w : World) (hn : -9223372036854775808 ≤ n ∧ n ≤ 9223372036854775807) (ho : Oct d0 d1 d2 d3 d4 d5 d6 d7) :
    Calls Tryz.prog 32 #[.int .i64 n, .agg #[.int .u8 d0, .int .u8 d1, .int .u8 d2, .int .u8 d3, .int .u8 d4, .int .u8 d5, .int .u8 d6, .int .u8 d7]] w fun e w' => e = .returned (.int .u16 (chk n [d0, d1, d2, d3, d4, d5, d6, d7])) ∧ Below w.heap.size w w' := by
  have hO := hid (fun k hk => oct_bd ho k hk)
  clear ho
  go_enter Tryz.func32, Tryz.ntmps32
  go_wp2
  refine wp_loop_rounds 5 ?_
  iterate 5 (rw [rounds_succ]; go_wp2)
  go_loop [5, 22] (fun c i => ∃ k : Nat, k ≤ 8 ∧ i = .int .i64 k ∧ c = .int .u16 (chD (chN n) [d0, d1, d2, d3, d4, d5, d6, d7] k)) (fun _ i => 8 - (intOf i).toNat)
  case atStart => exact ⟨0, Nat.zero_le _, rfl, rfl⟩
  case round =>
    obtain ⟨k, hk, rfl, rfl⟩ := hrel
    by_cases hlt : k < 8
    · have hix := fun w => index_oct d0 d1 d2 d3 d4 d5 d6 d7 k hlt w
      have hdb := hO.out k hlt
      have HC := hid (chD_succ (chN n) [d0, d1, d2, d3, d4, d5, d6, d7] k)
      have hcb := chD_bd (chN n) [d0, d1, d2, d3, d4, d5, d6, d7] k (chN_bd n)
      obtain ⟨d, hd⟩ : ∃ d, d = ([d0, d1, d2, d3, d4, d5, d6, d7] : List Int)[k]?.getD 0 := ⟨_, rfl⟩
      rw [← hd] at hdb HC
      simp only [← hd] at hix
      clear hd
      obtain ⟨c, hc⟩ : ∃ c, c = chD (chN n) [d0, d1, d2, d3, d4, d5, d6, d7] k := ⟨_, rfl⟩
      rw [← hc] at HC hcb ⊢
      clear hc
      go_wp2
      go_round
      case rel => exact ⟨k + 1, by omega, by go_num, by rw [HC.out]⟩
      case measure => simp [intOf]; omega
    · obtain rfl : k = 8 := by omega
      go_wp2
      go_ret
      exact ⟨rfl, (Below.refl _ _).alloc (Nat.le_refl _) _⟩
set_option maxRecDepth 100000 in
set_option maxHeartbeats 4000000 in
theorem l07Check_any (n : Int) (d0 d1 d2 d3 d4 d5 d6 d7 : Int) (w : World) (hn : -9223372036854775808 ≤ n ∧ n ≤ 9223372036854775807) (ho : Oct d0 d1 d2 d3 d4 d5 d6 d7) :
    Calls Tryz.prog 25 #[.int .i64 n, .agg #[.int .u8 d0, .int .u8 d1, .int .u8 d2, .int .u8 d3, .int .u8 d4, .int .u8 d5, .int .u8 d6, .int .u8 d7]] w fun e w' => e = .returned (.int .u16 (chk n [d0, d1, d2, d3, d4, d5, d6, d7])) ∧ Below w.heap.size w w' := by
  have hO := hid (fun k hk => oct_bd ho k hk)
  clear ho
  go_enter Tryz.func25, Tryz.ntmps25
  go_wp2
  refine wp_loop_rounds 5 ?_
  iterate 5 (rw [rounds_succ]; go_wp2)
  go_loop [5, 7] (fun c i => ∃ k : Nat, k ≤ 8 ∧ i = .int .i64 k ∧ c = .int .u16 (chD (chN n) [d0, d1, d2, d3, d4, d5, d6, d7] k)) (fun _ i => 8 - (intOf i).toNat)
  case atStart => exact ⟨0, Nat.zero_le _, rfl, by rw [chN_spec]; rfl⟩
  case round =>
    obtain ⟨k, hk, rfl, rfl⟩ := hrel
    by_cases hlt : k < 8
    · have hix := oct_cells w d0 d1 d2 d3 d4 d5 d6 d7 k hlt
      have hdb := hO.out k hlt
      have HC := hid (chD_succ (chN n) [d0, d1, d2, d3, d4, d5, d6, d7] k)
      have hcb := chD_bd (chN n) [d0, d1, d2, d3, d4, d5, d6, d7] k (chN_bd n)
      obtain ⟨d, hd⟩ : ∃ d, d = ([d0, d1, d2, d3, d4, d5, d6, d7] : List Int)[k]?.getD 0 := ⟨_, rfl⟩
      rw [← hd] at hdb HC
      simp only [← hd] at hix
      clear hd
      obtain ⟨c, hc⟩ : ∃ c, c = chD (chN n) [d0, d1, d2, d3, d4, d5, d6, d7] k := ⟨_, rfl⟩
      rw [← hc] at HC hcb ⊢
      clear hc
      go_wp2
      go_round
      case rel => exact ⟨k + 1, by omega, by go_num, by rw [HC.out]⟩
      case measure => simp [intOf]; omega
    · obtain rfl : k = 8 := by omega
      go_wp2
      go_ret
      exact ⟨rfl, (Below.refl _ _).alloc (Nat.le_refl _) _⟩
/-- the check of a ticket, with a code -/
def chkR (zs ds : List Int) (n : Int) : Int × Int := if okV zs ds then (if 1 ≤ n ∧ n ≤ 1000000 then (chk n ds, 0) else (0, 2)) else (0, 1)
theorem chkR_no {zs ds : List Int} {n : Int} (h : okV zs ds = false) : chkR zs ds n = (0, 1) := by simp [chkR, h]
theorem chkR_range {zs ds : List Int} {n : Int} (h : okV zs ds = true) (k : ¬ (1 ≤ n ∧ n ≤ 1000000)) : chkR zs ds n = (0, 2) := by rw [chkR, if_pos h, if_neg k]
theorem chkR_yes {zs ds : List Int} {n : Int} (h : okV zs ds = true) (k : 1 ≤ n ∧ n ≤ 1000000) : chkR zs ds n = (chk n ds, 0) := by rw [chkR, if_pos h, if_pos k]
theorem isNumber_any (n : Int) (w : World) : Calls Tryz.prog 49 #[.int .i64 n] w fun e w' => e = .returned (.bool (decide (1 ≤ n) && decide (n ≤ 1000000))) ∧ w = w' := by
  by_cases h : 1 ≤ n
  · have h1 : decide (1 ≤ n) = true := decide_eq_true h
    go_enter Tryz.func49, Tryz.ntmps49
    go_wp2
    go_ret
    exact ⟨by rw [h1]; rfl, rfl⟩
  · have h1 : decide (1 ≤ n) = false := decide_eq_false h
    go_enter Tryz.func49, Tryz.ntmps49
    go_wp2
    go_ret
    exact ⟨rfl, rfl⟩
end Go.Proofs.YtcbhlljgcndhdaaGreatDoor
