/- Counting bits by lanes is counting them one by one. -/
import Derived.Laws.BitsAllLaws
import Derived.IntWalk
namespace Go.Proofs.Ytgfdfnlbkljgeaa
open Go.RowKit
/-- how many bits a number has -/
def popB (x : Nat) : Nat := if x = 0 then 0 else x % 2 + popB (x / 2)
termination_by x
decreasing_by omega
theorem popB_zero : popB 0 = 0 := by rw [popB]; simp
theorem popB_step (x : Nat) : popB x = x % 2 + popB (x / 2) := by
  by_cases h : x = 0
  · subst h; simp [popB_zero]
  · rw [popB, if_neg h]
/-- the bits of a byte -/
def pop8b (b : Nat) : Nat := b % 2 + b / 2 % 2 + b / 4 % 2 + b / 8 % 2 + b / 16 % 2 + b / 32 % 2 + b / 64 % 2 + b / 128 % 2
theorem popB_byte (x : Nat) : popB x = pop8b (x % 256) + popB (x / 256) := by
  rw [popB_step x, popB_step (x / 2), popB_step (x / 2 / 2), popB_step (x / 2 / 2 / 2), popB_step (x / 2 / 2 / 2 / 2), popB_step (x / 2 / 2 / 2 / 2 / 2), popB_step (x / 2 / 2 / 2 / 2 / 2 / 2), popB_step (x / 2 / 2 / 2 / 2 / 2 / 2 / 2)]
  have e : x / 2 / 2 / 2 / 2 / 2 / 2 / 2 / 2 = x / 256 := by omega
  rw [e]
  unfold pop8b
  omega
def lane (f : Nat → Nat) : Nat → Nat → Nat
  | 0, _ => 0
  | n + 1, x => f (x % 256) + 256 * lane f n (x / 256)
def mk8 (r : Nat) : Nat → Nat
  | 0 => 0
  | n + 1 => r + 256 * mk8 r n
theorem and_lane (x r m : Nat) (hr : r < 256) : x &&& (r + 256 * m) = (x % 256 &&& r) + 256 * (x / 256 &&& m) := by
  have h := Nat.div_add_mod (x &&& (r + 256 * m)) 256
  have h1 : (x &&& (r + 256 * m)) / 256 = x / 256 &&& m := by
    have := Nat.and_div_two_pow (a := x) (b := r + 256 * m) (n := 8)
    simp only [show (2 : Nat) ^ 8 = 256 from rfl] at this
    rw [this, show (r + 256 * m) / 256 = m from by omega]
  have h2 : (x &&& (r + 256 * m)) % 256 = x % 256 &&& r := by
    have := Nat.and_mod_two_pow (a := x) (b := r + 256 * m) (n := 8)
    simp only [show (2 : Nat) ^ 8 = 256 from rfl] at this
    rw [this, show (r + 256 * m) % 256 = r from by omega]
  rw [h1, h2] at h
  omega
theorem lane_mod (f : Nat → Nat) (n x : Nat) (hf : f (x % 256) < 256) : lane f (n + 1) x % 256 = f (x % 256) := by simp only [lane]; omega
theorem lane_div (f : Nat → Nat) (n x : Nat) (hf : f (x % 256) < 256) : lane f (n + 1) x / 256 = lane f n (x / 256) := by simp only [lane]; omega
def P1 (b : Nat) : Nat := (b / 2 &&& 85) + (b &&& 85)
def P2 (b : Nat) : Nat := (b / 4 &&& 51) + (b &&& 51)
theorem t1 : (List.range 256).all (fun b => (List.range 2).all fun t => decide ((b / 2 + 128 * t) &&& 85 = b / 2 &&& 85)) = true := by decide +kernel
theorem t2 : (List.range 256).all (fun b => (List.range 4).all fun t => decide ((b / 4 + 64 * t) &&& 51 = b / 4 &&& 51)) = true := by decide +kernel
theorem t3 : (List.range 256).all (fun b => decide (P1 b < 256) && decide (P2 (P1 b) % 16 ≤ 4) && decide (P2 (P1 b) / 16 ≤ 4) && decide ((P2 (P1 b) / 16 + P2 (P1 b)) % 16 = pop8b b) && decide (b &&& 15 = b % 16) && decide (pop8b b ≤ 8)) = true := by decide +kernel
theorem t3' (b : Nat) (h : b < 256) : P1 b < 256 ∧ P2 (P1 b) % 16 ≤ 4 ∧ P2 (P1 b) / 16 ≤ 4 ∧ (P2 (P1 b) / 16 + P2 (P1 b)) % 16 = pop8b b ∧ b &&& 15 = b % 16 ∧ pop8b b ≤ 8 := by
  have := t3
  simp only [List.all_eq_true, List.mem_range, Bool.and_eq_true, decide_eq_true_eq] at this
  obtain ⟨⟨⟨⟨⟨a1, a2⟩, a3⟩, a4⟩, a5⟩, a6⟩ := this b h
  exact ⟨a1, a2, a3, a4, a5, a6⟩
theorem step1 : ∀ (n x : Nat), (x / 2 &&& mk8 85 n) + (x &&& mk8 85 n) = lane P1 n x
  | 0, x => by simp [mk8, lane]
  | n + 1, x => by
    have ih := step1 n (x / 256)
    simp only [mk8, lane]
    rw [and_lane _ 85 _ (by omega), and_lane x 85 _ (by omega), ← ih]
    have hq : x / 2 / 256 = x / 256 / 2 := by omega
    have hm : x / 2 % 256 = x % 256 / 2 + 128 * (x / 256 % 2) := by omega
    have := t1
    simp only [List.all_eq_true, List.mem_range, decide_eq_true_eq] at this
    have ht := this (x % 256) (by omega) (x / 256 % 2) (by omega)
    rw [hq, hm, ht]
    unfold P1
    omega
theorem step2 (f : Nat → Nat) (hf : ∀ b, b < 256 → f b < 256) : ∀ (n x : Nat), (lane f n x / 4 &&& mk8 51 n) + (lane f n x &&& mk8 51 n) = lane (fun b => P2 (f b)) n x
  | 0, x => by simp [mk8, lane]
  | n + 1, x => by
    have ih := step2 f hf n (x / 256)
    have hb := hf (x % 256) (by omega)
    have d := lane_div f n x hb
    have m := lane_mod f n x hb
    simp only [mk8]
    rw [and_lane _ 51 _ (by omega), and_lane (lane f (n + 1) x) 51 _ (by omega), d, m]
    have hq : lane f (n + 1) x / 4 / 256 = lane f n (x / 256) / 4 := by omega
    have hm : lane f (n + 1) x / 4 % 256 = f (x % 256) / 4 + 64 * (lane f n (x / 256) % 4) := by omega
    have := t2
    simp only [List.all_eq_true, List.mem_range, decide_eq_true_eq] at this
    have ht := this (f (x % 256)) hb (lane f n (x / 256) % 4) (by omega)
    rw [hq, hm, ht]
    show _ = P2 (f (x % 256)) + 256 * lane (fun b => P2 (f b)) n (x / 256)
    rw [← ih]
    unfold P2
    omega
theorem lane_low (g : Nat → Nat) (hg : ∀ b, b < 256 → g b % 16 ≤ 4) : ∀ (n x : Nat), lane g n x % 16 ≤ 4
  | 0, _ => by simp [lane]
  | n + 1, x => by
    have := hg (x % 256) (by omega)
    simp only [lane]
    omega
theorem step3 (g : Nat → Nat) (hg : ∀ b, b < 256 → g b % 16 ≤ 4 ∧ g b / 16 ≤ 4) : ∀ (n x : Nat), (lane g n x / 16 + lane g n x) &&& mk8 15 n = lane (fun b => (g b / 16 + g b) % 16) n x
  | 0, x => by simp [mk8, lane]
  | n + 1, x => by
    have ih := step3 g hg n (x / 256)
    have hl := lane_low g (fun b h => (hg b h).1) n (x / 256)
    obtain ⟨hb1, hb2⟩ := hg (x % 256) (by omega)
    simp only [mk8]
    rw [and_lane _ 15 _ (by omega)]
    show _ = (g (x % 256) / 16 + g (x % 256)) % 16 + 256 * lane (fun b => (g b / 16 + g b) % 16) n (x / 256)
    rw [← ih]
    have hlane : lane g (n + 1) x = g (x % 256) + 256 * lane g n (x / 256) := rfl
    generalize lane g n (x / 256) = y at *
    generalize g (x % 256) = c at *
    rw [hlane]
    have e1 : ((c + 256 * y) / 16 + (c + 256 * y)) / 256 = y / 16 + y := by omega
    have e2 : ((c + 256 * y) / 16 + (c + 256 * y)) % 256 % 16 = (c / 16 + c) % 16 := by omega
    have e3 := (t3' (((c + 256 * y) / 16 + (c + 256 * y)) % 256) (by omega)).2.2.2.2.1
    rw [e1, e3, e2]
theorem lane_pop : ∀ (n x : Nat), x < 256 ^ n → ∀ f : Nat → Nat, (∀ b, b < 256 → f b = pop8b b) → lane f n x = lane pop8b n x
  | 0, _, _, _, _ => rfl
  | n + 1, x, h, f, hf => by
    simp only [lane]
    rw [hf _ (by omega), lane_pop n (x / 256) (by rw [Nat.pow_succ] at h; omega) f hf]
theorem pop_eight (x : Nat) (h : x < 18446744073709551616) : ∃ p0 p1 p2 p3 p4 p5 p6 p7 : Nat, (p0 ≤ 8 ∧ p1 ≤ 8 ∧ p2 ≤ 8 ∧ p3 ≤ 8 ∧ p4 ≤ 8 ∧ p5 ≤ 8 ∧ p6 ≤ 8 ∧ p7 ≤ 8) ∧ popB x = p0 + p1 + p2 + p3 + p4 + p5 + p6 + p7 ∧ lane pop8b 8 x = p0 + 256 * (p1 + 256 * (p2 + 256 * (p3 + 256 * (p4 + 256 * (p5 + 256 * (p6 + 256 * p7)))))) := by
  have hp : ∀ b, b < 256 → pop8b b ≤ 8 := fun b hb => (t3' b hb).2.2.2.2.2
  refine ⟨pop8b (x % 256), pop8b (x / 256 % 256), pop8b (x / 256 / 256 % 256), pop8b (x / 256 / 256 / 256 % 256), pop8b (x / 256 / 256 / 256 / 256 % 256), pop8b (x / 256 / 256 / 256 / 256 / 256 % 256), pop8b (x / 256 / 256 / 256 / 256 / 256 / 256 % 256), pop8b (x / 256 / 256 / 256 / 256 / 256 / 256 / 256 % 256), ?_, ?_, ?_⟩
  · exact ⟨hp _ (by omega), hp _ (by omega), hp _ (by omega), hp _ (by omega), hp _ (by omega), hp _ (by omega), hp _ (by omega), hp _ (by omega)⟩
  · rw [popB_byte x, popB_byte (x / 256), popB_byte (x / 256 / 256), popB_byte (x / 256 / 256 / 256), popB_byte (x / 256 / 256 / 256 / 256), popB_byte (x / 256 / 256 / 256 / 256 / 256), popB_byte (x / 256 / 256 / 256 / 256 / 256 / 256), popB_byte (x / 256 / 256 / 256 / 256 / 256 / 256 / 256)]
    have e : x / 256 / 256 / 256 / 256 / 256 / 256 / 256 / 256 = 0 := by omega
    rw [e, popB_zero]
    omega
  · simp only [lane]
    omega
theorem masks : mk8 85 8 = 6148914691236517205 ∧ mk8 51 8 = 3689348814741910323 ∧ mk8 15 8 = 1085102592571150095 := by decide +kernel
/-- the three masked steps -/
theorem sw_lanes (x : Nat) (h : x < 18446744073709551616) :
    (((((x / 2 &&& 6148914691236517205) + (x &&& 6148914691236517205)) / 4 &&& 3689348814741910323) + (((x / 2 &&& 6148914691236517205) + (x &&& 6148914691236517205)) &&& 3689348814741910323)) / 16 + ((((x / 2 &&& 6148914691236517205) + (x &&& 6148914691236517205)) / 4 &&& 3689348814741910323) + (((x / 2 &&& 6148914691236517205) + (x &&& 6148914691236517205)) &&& 3689348814741910323))) &&& 1085102592571150095 = lane pop8b 8 x := by
  obtain ⟨m0, m1, m2⟩ := masks
  rw [← m0, ← m1, ← m2, step1, step2 P1 (fun b hb => (t3' b hb).1), step3 (fun b => P2 (P1 b)) (fun b hb => ⟨(t3' b hb).2.1, (t3' b hb).2.2.1⟩)]
  exact lane_pop 8 x (by omega) _ (fun b hb => (t3' b hb).2.2.2.1)
end Go.Proofs.Ytgfdfnlbkljgeaa
