/- RestAt and ClicksOf: the program's, the model's, the laws. -/
import Derived.Test.YtpnhmncamcdipaaTeeth
import Derived.Test.YtpnhmncamcdipaaValid
import Derived.Test.YtpnhmncamcdipaaOpen
namespace Go.Proofs.Ytpnhmncamcdipaa
open Go.RowKit

def turnB (n : Int) : Bool := decide (0 ≤ n ∧ n ≤ 1000000000000000)
theorem turnB_yes {n : Int} (h : turnB n = true) : 0 ≤ n ∧ n ≤ 1000000000000000 := by simpa [turnB] using h
theorem turnB_no {n : Int} (h : turnB n = false) : ¬ (0 ≤ n ∧ n ≤ 1000000000000000) := by simpa [turnB] using h
def restR (turn t : Int) : Int × Int := if teethB t && turnB turn then (turn - turn % gapOf t, 0) else (0, 2)
theorem restR_teeth {turn t : Int} (h : teethB t = false) : restR turn t = (0, 2) := by simp [restR, h]
theorem restR_turn {turn t : Int} (h : turnB turn = false) : restR turn t = (0, 2) := by simp [restR, h]
theorem restR_yes {turn t : Int} (h : teethB t = true) (k : turnB turn = true) : restR turn t = (turn - turn % gapOf t, 0) := by simp [restR, h, k]
def clicksR (turn by_ t : Int) : Int × Int := if teethB t && turnB turn && turnB by_ then ((turn + by_) / gapOf t - turn / gapOf t, 0) else (0, 2)
theorem clicksR_teeth {turn by_ t : Int} (h : teethB t = false) : clicksR turn by_ t = (0, 2) := by simp [clicksR, h]
theorem clicksR_turn {turn by_ t : Int} (h : turnB turn = false) : clicksR turn by_ t = (0, 2) := by simp [clicksR, h]
theorem clicksR_by {turn by_ t : Int} (h : turnB by_ = false) : clicksR turn by_ t = (0, 2) := by simp [clicksR, h]
theorem clicksR_yes {turn by_ t : Int} (h : teethB t = true) (k : turnB turn = true) (l : turnB by_ = true) : clicksR turn by_ t = ((turn + by_) / gapOf t - turn / gapOf t, 0) := by simp [clicksR, h, k, l]

theorem l02Teeth_any (turn t : Int) (w : World) : Calls Try.prog 21 #[.int .i64 turn, .int .i64 t] w fun e w' => e = .returned (.bool (turnB turn && teethB t)) ∧ w = w' := by
  cases hb : turnB turn with
  | false =>
    have H := turnB_no hb
    have HI := hid (fun w => inr_no turn 0 1000000000000000 w (by omega))
    rw [Bool.false_and]
    clear hb H
    go_enter Try.func21, Try.ntmps21
    go_wp2_with (go_at_call 22; refine (HI.out _).mono ?_; rintro e w' ⟨rfl, rfl⟩)
    go_ret
    exact ⟨rfl, rfl⟩
  | true =>
    have H := turnB_yes hb
    have HI := hid (fun w => inr_yes turn 0 1000000000000000 w H)
    rw [Bool.true_and]
    clear hb
    by_cases h1 : 1 ≤ t ∧ t ≤ 1000
    · have HT := hid (fun w => inr_yes t 1 1000 w h1)
      rw [teethB_mid h1.1 h1.2]
      have m0 := Int.emod_nonneg 1000 (show t ≠ 0 by omega)
      have m1 := Int.emod_lt_of_pos 1000 (show 0 < t by omega)
      obtain ⟨r, hr⟩ : ∃ r, r = 1000 % t := ⟨_, rfl⟩
      rw [← hr]
      have e1 : Int.tmod 1000 t = r := by rw [Int.tmod_eq_emod_of_nonneg (by decide), hr]
      rw [← hr] at m0 m1
      have n1 : t ≠ 0 := by omega
      by_cases h3 : r = 0
      · subst h3
        clear hr
        go_enter Try.func21, Try.ntmps21
        go_wp2_with fail
        refine (HI.out _).mono ?_
        rintro e w' ⟨rfl, rfl⟩
        go_wp2_with fail
        refine (HT.out _).mono ?_
        rintro e w' ⟨rfl, rfl⟩
        go_wp2_with fail
        go_ret
        exact ⟨rfl, rfl⟩
      · have d : decide (r = 0) = false := by simp [h3]
        have d2 : (r == 0) = false := by simp [h3]
        rw [d]
        clear hr d h3
        go_enter Try.func21, Try.ntmps21
        go_wp2_with fail
        refine (HI.out _).mono ?_
        rintro e w' ⟨rfl, rfl⟩
        go_wp2_with fail
        refine (HT.out _).mono ?_
        rintro e w' ⟨rfl, rfl⟩
        go_wp2_with fail
        go_ret
        exact ⟨rfl, rfl⟩
    · have HT := hid (fun w => inr_no t 1 1000 w (by omega))
      have hf : teethB t = false := by
        by_cases h2 : t < 1
        · exact teethB_low h2
        · exact teethB_high (by omega)
      rw [hf]
      clear hf h1
      go_enter Try.func21, Try.ntmps21
      go_wp2_with fail
      refine (HI.out _).mono ?_
      rintro e w' ⟨rfl, rfl⟩
      go_wp2_with fail
      refine (HT.out _).mono ?_
      rintro e w' ⟨rfl, rfl⟩
      go_wp2_with fail
      go_ret
      exact ⟨rfl, rfl⟩

theorem div_mul_self (a g : Int) : a / g * g = a - a % g := by
  have := Int.mul_ediv_add_emod a g
  rw [Int.mul_comm] at this
  omega
theorem div_bd (a g : Int) (h : 0 ≤ a) (hg : 1 ≤ g) : 0 ≤ a / g ∧ a / g ≤ a :=
  ⟨Int.ediv_nonneg h (by omega), Int.ediv_le_self g h⟩
theorem mod_bd (a g : Int) (h : 0 ≤ a) (hg : 1 ≤ g) : 0 ≤ a % g ∧ a % g ≤ a :=
  ⟨Int.emod_nonneg a (by omega), emod_le_self a g h hg⟩

set_option maxHeartbeats 1000000 in
theorem implRestAt_any (turn t : Int) (w : World) : Calls Try.prog 6 #[.int .i64 turn, .int .i64 t] w fun e w' => e = .returned (.tuple #[.int .i64 (restR turn t).1, .int .i64 (restR turn t).2]) ∧ Below w.heap.size w w' := by
  have bel : Below w.heap.size w ((w.alloc (.cells #[.int .i64 turn] 2)).alloc (.cells #[.int .i64 t] 2)) := ((Below.refl w.heap.size w).alloc (Nat.le_refl _) _).alloc (by simp) _
  have r1 := hid ((Row.new w 2 [.int .i64 turn]).alloc (.cells #[.int .i64 t] 2))
  have r2 := hid (Row.new (w.alloc (.cells #[.int .i64 turn] 2)) 2 [.int .i64 t])
  have hmf : ∀ (fn : Fn) (first cap : Array Value) (w : World), (Instr.makeFunc fn first cap).run Try.prog w = .ok (.func fn first cap) w := fun _ _ _ _ => rfl
  have cells : Hid (∀ w1, Below ((w.alloc (.cells #[.int .i64 turn] 2)).alloc (.cells #[.int .i64 t] 2)).heap.size ((w.alloc (.cells #[.int .i64 turn] 2)).alloc (.cells #[.int .i64 t] 2)) w1 → w1.cell? ⟨w.heap.size, 0, none⟩ = some (.int .i64 turn) ∧ w1.cell? ⟨w.heap.size + 1, 0, none⟩ = some (.int .i64 t)) := by
    refine hid (fun w1 hB => ?_)
    have a := (r1.out.below hB (by simp; omega)).cell 0
    have b := r2.out
    simp only [World.size_alloc] at b
    have b := (b.below hB (by simp)).cell 0
    exact ⟨a, b⟩
  clear r1 r2
  cases ht : teethB t with
  | false =>
    rw [restR_teeth ht]
    have HT := hid (fun w => validTeeth_any t w)
    rw [ht] at HT
    clear ht
    go_enter Try.func6, Try.ntmps6
    go_wp2_with (go_at_call 11; refine (HT.out _).mono ?_; rintro e w' ⟨rfl, rfl⟩)
    go_ret2
    exact ⟨rfl, bel⟩
  | true =>
    have HT := hid (fun w => validTeeth_any t w)
    rw [ht] at HT
    have hb := teethB_out ht
    cases hu : turnB turn with
    | false =>
      rw [restR_turn hu]
      have HS := hid (settle_pan 13 #[.pointer (some ⟨w.heap.size, 0, none⟩), .pointer (some ⟨w.heap.size + 1, 0, none⟩)] turn ((w.alloc (.cells #[.int .i64 turn] 2)).alloc (.cells #[.int .i64 t] 2)) (fun _ => rfl)
        (fun w1 h1 _ => (rest1_no _ _ turn t (turnB_no hu) ⟨hb.1, hb.2.1⟩ w1 (cells.out w1 h1).1 (cells.out w1 h1).2).mono fun e w' ⟨he, d, hd⟩ => ⟨he, by rw [hd]; exact below_drewN (Below.refl _ _) d⟩))
      clear ht hu cells
      go_enter Try.func6, Try.ntmps6
      go_wp2_with (go_at_call 11; refine (HT.out _).mono ?_; rintro e w' ⟨rfl, rfl⟩)
      refine HS.out.mono ?_
      rintro e w1 ⟨rfl, hB⟩
      go_wp2_with fail
      go_ret2
      exact ⟨rfl, bel.trans (hB.mono (by simp; omega))⟩
    | true =>
      rw [restR_yes ht hu]
      have HS := hid (settle_ok 13 #[.pointer (some ⟨w.heap.size, 0, none⟩), .pointer (some ⟨w.heap.size + 1, 0, none⟩)] (turn - turn % gapOf t) ((w.alloc (.cells #[.int .i64 turn] 2)).alloc (.cells #[.int .i64 t] 2)) (fun _ => rfl)
        (fun w1 h1 _ => (rest1_ok _ _ turn t (turnB_yes hu) ⟨hb.1, hb.2.1⟩ w1 (cells.out w1 h1).1 (cells.out w1 h1).2).mono fun e w' ⟨he, d, hd⟩ => ⟨he, by rw [hd]; exact below_drewN (Below.refl _ _) d⟩))
      clear ht hu cells
      go_enter Try.func6, Try.ntmps6
      go_wp2_with (go_at_call 11; refine (HT.out _).mono ?_; rintro e w' ⟨rfl, rfl⟩)
      refine HS.out.mono ?_
      rintro e w1 ⟨rfl, hB⟩
      go_wp2_with fail
      go_ret2
      exact ⟨rfl, bel.trans (hB.mono (by simp; omega))⟩

end Go.Proofs.Ytpnhmncamcdipaa
