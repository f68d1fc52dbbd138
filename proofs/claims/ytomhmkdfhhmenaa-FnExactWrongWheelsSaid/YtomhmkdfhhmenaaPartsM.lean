/- The parts of all wheels at a turn: plain mathematics; what a joint does to the next wheel. -/
import Derived.Test.YtomhmkdfhhmenaaRight
namespace Go.Proofs.Ytomhmkdfhhmenaa
open Go.RowKit

/-- what a joint does to the next wheel -/
def beyJ (k f q b : Int) : Int := if k = 1 then (if q < (b - 1) * 1000 + f then 0 else (q - ((b - 1) * 1000 + f)) * 1000 / (1000 - f)) else q / b
theorem beyJ_even {f q b : Int} : beyJ 0 f q b = q / b := by simp [beyJ]
theorem beyJ_rest {f q b : Int} (h : q < (b - 1) * 1000 + f) : beyJ 1 f q b = 0 := by simp [beyJ, h]
theorem beyJ_late {f q b : Int} (h : ¬ q < (b - 1) * 1000 + f) : beyJ 1 f q b = (q - ((b - 1) * 1000 + f)) * 1000 / (1000 - f) := by
  simp only [beyJ, if_true]; rw [if_neg h]
theorem late_bd {f q b : Int} (hf : 0 ≤ f ∧ f < 1000) (hq : q < b * 1000) (h : ¬ q < (b - 1) * 1000 + f) : 0 ≤ (q - ((b - 1) * 1000 + f)) * 1000 / (1000 - f) ∧ (q - ((b - 1) * 1000 + f)) * 1000 / (1000 - f) < 1000 := by
  have h1 : 0 ≤ (q - ((b - 1) * 1000 + f)) * 1000 := by omega
  have h2 : 0 < 1000 - f := by omega
  refine ⟨Int.ediv_nonneg h1 (by omega), ?_⟩
  rw [Int.ediv_lt_iff_lt_mul h2]
  omega
theorem beyJ_bd {k f q b : Int} (hj : okJ k f = true) (hb : 2 ≤ b ∧ b ≤ 100) (hq : 0 ≤ q ∧ q < b * 1000) : 0 ≤ beyJ k f q b ∧ beyJ k f q b < 1000 := by
  rcases okJ_out hj with ⟨rfl, rfl⟩ | ⟨rfl, h0, h1⟩
  · rw [beyJ_even]
    refine ⟨Int.ediv_nonneg hq.1 (by omega), ?_⟩
    rw [Int.ediv_lt_iff_lt_mul (by omega)]
    have : 1000 * b = b * 1000 := Int.mul_comm _ _
    omega
  · by_cases h : q < (b - 1) * 1000 + f
    · rw [beyJ_rest h]; omega
    · rw [beyJ_late h]; exact late_bd ⟨h0, h1⟩ hq.2 h
/-- the digit of a wheel -/
def dgt (zs : List Int) (turn : Int) (k : Nat) : Int := turn / 1000 / szL (zs.take k) % zs[k]?.getD 0
/-- the parts of a wheel -/
def pL (zs : List Int) (js : List (Int × Int)) (turn : Int) : Nat → Int
  | 0 => dgt zs turn 0 * 1000 + turn % 1000
  | k + 1 => dgt zs turn (k + 1) * 1000 + beyJ (jk js k) (jf js k) (pL zs js turn k) (zs[k]?.getD 0)
theorem dgt_bd {zs : List Int} {turn : Int} {k : Nat} (hk : k < zs.length) (hin : inB zs zs.length) : 0 ≤ dgt zs turn k ∧ dgt zs turn k < zs[k]?.getD 0 := by
  have := hin k hk
  exact ⟨Int.emod_nonneg _ (by omega), Int.emod_lt_of_pos _ (by omega)⟩
theorem pL_bd {zs : List Int} {js : List (Int × Int)} {turn : Int} (hin : inB zs zs.length) (hj : ∀ j, j < js.length → okJ (jk js j) (jf js j) = true) (hl : js.length + 1 = zs.length) : ∀ k, k < zs.length → 0 ≤ pL zs js turn k ∧ pL zs js turn k < zs[k]?.getD 0 * 1000
  | 0, h => by
    have d := dgt_bd (turn := turn) h hin
    have r0 := Int.emod_nonneg turn (show (1000 : Int) ≠ 0 by decide)
    have r1 := Int.emod_lt_of_pos turn (show (0 : Int) < 1000 by decide)
    simp only [pL]
    omega
  | k + 1, h => by
    have d := dgt_bd (turn := turn) h hin
    have ih := pL_bd (turn := turn) hin hj hl k (by omega)
    have b := beyJ_bd (hj k (by omega)) (hin k (by omega)) ih
    simp only [pL]
    omega
theorem first_parts (turn z : Int) (h : 0 ≤ turn) (hz : 2 ≤ z) : turn % (z * 1000) = turn / 1000 % z * 1000 + turn % 1000 := by
  have e1 := Int.mul_ediv_add_emod turn 1000
  have e2 := Int.mul_ediv_add_emod (turn / 1000) z
  have r0 := Int.emod_nonneg turn (show (1000 : Int) ≠ 0 by decide)
  have r1 := Int.emod_lt_of_pos turn (show (0 : Int) < 1000 by decide)
  have d0 := Int.emod_nonneg (turn / 1000) (show z ≠ 0 by omega)
  have d1 := Int.emod_lt_of_pos (turn / 1000) (show 0 < z by omega)
  obtain ⟨q, hq⟩ : ∃ q, q = turn / 1000 / z := ⟨_, rfl⟩
  obtain ⟨d, hd⟩ : ∃ d, d = turn / 1000 % z := ⟨_, rfl⟩
  obtain ⟨r, hr⟩ : ∃ r, r = turn % 1000 := ⟨_, rfl⟩
  rw [← hq, ← hd] at e2
  rw [← hr] at e1 r0 r1
  rw [← hd] at d0 d1
  rw [← hd, ← hr]
  have e3 : turn = d * 1000 + r + z * 1000 * q := by
    rw [← e1, ← e2]
    have : 1000 * (z * q + d) = z * 1000 * q + d * 1000 := by
      rw [Int.mul_add, ← Int.mul_assoc, Int.mul_comm 1000 z, Int.mul_comm 1000 d]
    omega
  rw [e3, Int.add_mul_emod_self_left]
  exact Int.emod_eq_of_lt (by omega) (by omega)

/-- the parts of the wheels up to k -/
def pto (zs : List Int) (js : List (Int × Int)) (turn : Int) (k : Nat) : List Value := (List.range 8).map fun j => .int .i64 (if j ≤ k then pL zs js turn j else 0)
theorem pto_len (zs : List Int) (js : List (Int × Int)) (turn : Int) (k : Nat) : (pto zs js turn k).length = 8 := by simp [pto]
theorem pto_zero (zs : List Int) (js : List (Int × Int)) (turn : Int) : pto zs js turn 0 = [.int .i64 (pL zs js turn 0), .int .i64 0, .int .i64 0, .int .i64 0, .int .i64 0, .int .i64 0, .int .i64 0, .int .i64 0] := rfl
theorem pto_get (zs : List Int) (js : List (Int × Int)) (turn : Int) (k : Nat) (hk : k < 8) : (pto zs js turn k)[k]? = some (.int .i64 (pL zs js turn k)) := by simp [pto, hk]
theorem pto_set (zs : List Int) (js : List (Int × Int)) (turn : Int) (k : Nat) (hk : k + 1 < 8) : (pto zs js turn k).set (k + 1) (.int .i64 (pL zs js turn (k + 1))) = pto zs js turn (k + 1) := by
  apply List.ext_getElem?
  intro j
  simp only [pto, List.getElem?_set, List.getElem?_map, List.length_map, List.length_range]
  by_cases hj : k + 1 = j
  · subst hj
    simp [hk]
  · rw [if_neg hj]
    by_cases h8 : j < 8
    · simp only [List.getElem?_range h8, Option.map_some]
      by_cases h : j ≤ k
      · rw [if_pos h, if_pos (by omega)]
      · rw [if_neg h, if_neg (by omega)]
    · simp [List.getElem?_eq_none (show (List.range 8).length ≤ j by simp; omega)]
/-- the parts of all wheels -/
def partsL (zs : List Int) (js : List (Int × Int)) (turn : Int) : List Int := (List.range 8).map fun j => if j < zs.length then pL zs js turn j else 0
theorem pto_all {zs : List Int} {js : List (Int × Int)} {turn : Int} (h : 1 ≤ zs.length) : pto zs js turn (zs.length - 1) = (partsL zs js turn).map (Value.int .i64) := by
  simp only [pto, partsL, List.map_map]
  apply List.map_congr_left
  intro j _
  simp only [Function.comp]
  by_cases h2 : j < zs.length
  · rw [if_pos h2, if_pos (by omega)]
  · rw [if_neg h2, if_neg (by omega)]
theorem partsL_list (zs : List Int) (js : List (Int × Int)) (turn : Int) : (partsL zs js turn).map (Value.int .i64) = [.int .i64 (dg (partsL zs js turn) 0), .int .i64 (dg (partsL zs js turn) 1), .int .i64 (dg (partsL zs js turn) 2), .int .i64 (dg (partsL zs js turn) 3), .int .i64 (dg (partsL zs js turn) 4), .int .i64 (dg (partsL zs js turn) 5), .int .i64 (dg (partsL zs js turn) 6), .int .i64 (dg (partsL zs js turn) 7)] := rfl

theorem carry_late (f : Int) (w : World) (hf : 0 ≤ f ∧ f < 1000) : Calls Try.prog 54 #[.agg #[.int .i8 1, .int .i16 f]] w fun e w' => e = .returned (.iface 101 (.agg #[.int .i64 f])) ∧ Below w.heap.size w w' := by
  obtain ⟨h1, h2⟩ := hf
  have wf : IntKind.i64.wrap f = f := IntWalk.i64_in f (by omega)
  go_enter Try.func54, Try.ntmps54
  go_wp2_with fail
  go_ret
  exact ⟨rfl, (Below.refl _ _).alloc (Nat.le_refl _) _⟩
theorem carry_even (f : Int) (w : World) : Calls Try.prog 54 #[.agg #[.int .i8 0, .int .i16 f]] w fun e w' => e = .returned (.iface 103 (.agg #[])) ∧ Below w.heap.size w w' := by
  go_enter Try.func54, Try.ntmps54
  go_wp2_with fail
  go_ret
  exact ⟨rfl, (Below.refl _ _).alloc (Nat.le_refl _) _⟩
theorem beyond_even (q b : Int) (w : World) (hq : 0 ≤ q ∧ q ≤ 100000) (hb : 2 ≤ b ∧ b ≤ 100) : Calls Try.prog 79 #[.agg #[], .int .i64 q, .int .i64 b] w fun e w' => e = .returned (.int .i64 (q / b)) ∧ Below w.heap.size w w' := by
  have hb0 : b ≠ 0 := by omega
  have e1 : q.tdiv b = q / b := Int.tdiv_eq_ediv_of_nonneg hq.1
  have q0 := Int.ediv_nonneg hq.1 (show 0 ≤ b by omega)
  have q1 := Int.ediv_le_self b hq.1
  obtain ⟨x, hx⟩ : ∃ x, x = q / b := ⟨_, rfl⟩
  rw [← hx] at e1 q0 q1
  rw [← hx]
  clear hx
  obtain ⟨h1, h2⟩ := hq
  have wx : IntKind.i64.wrap x = x := IntWalk.i64_in x (by omega)
  go_enter Try.func79, Try.ntmps79
  go_wp2_with fail
  go_ret
  exact ⟨rfl, (Below.refl _ _).alloc (Nat.le_refl _) _⟩
theorem beyond_late (f q b : Int) (w : World) (hf : 0 ≤ f ∧ f < 1000) (hq : 0 ≤ q ∧ q < b * 1000) (hb : 2 ≤ b ∧ b ≤ 100) : Calls Try.prog 78 #[.agg #[.int .i64 f], .int .i64 q, .int .i64 b] w fun e w' => e = .returned (.int .i64 (beyJ 1 f q b)) ∧ Below w.heap.size w w' := by
  have bel := (Below.refl w.heap.size w).alloc (Nat.le_refl _) (.cells #[.int .i64 f] 101)
  by_cases h : q ≤ (b - 1) * 1000 + f
  · have h0 : beyJ 1 f q b = 0 := by
      by_cases h1 : q < (b - 1) * 1000 + f
      · exact beyJ_rest h1
      · rw [beyJ_late h1, show q - ((b - 1) * 1000 + f) = 0 by omega]; simp
    rw [h0]
    have n1 : 1000 - f ≠ 0 := by omega
    have hx : q - ((b - 1) * 1000 + f) ≤ 0 := by omega
    clear h0
    go_enter Try.func78, Try.ntmps78
    go_wp2_with fail
    go_ret
    exact ⟨rfl, bel⟩
  · have h1 : ¬ q < (b - 1) * 1000 + f := by omega
    rw [beyJ_late h1]
    have lb := late_bd hf hq.2 h1
    have hx : 0 < q - ((b - 1) * 1000 + f) := by omega
    have hx2 : q - ((b - 1) * 1000 + f) < 1000 := by omega
    have n1 : 1000 - f ≠ 0 := by omega
    have h2 : (b - 1) * 1000 + f < q := by omega
    clear h h1
    go_enter Try.func78, Try.ntmps78
    go_wp2_with fail
    go_ret
    exact ⟨rfl, bel⟩
end Go.Proofs.Ytomhmkdfhhmenaa
