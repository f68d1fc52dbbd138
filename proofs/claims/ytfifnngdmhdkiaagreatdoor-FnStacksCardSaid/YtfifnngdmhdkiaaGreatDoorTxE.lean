/- DigitsText, StackText; the model's. -/
import Derived.Test.YtfifnngdmhdkiaaGreatDoorTxD
import Derived.Test.YtfifnngdmhdkiaaGreatDoorMgP
namespace Go.Proofs.YtfifnngdmhdkiaaGreatDoor
open Go.RowKit Go.Shelf
theorem itoa_len (z : Int) (h : 0 ≤ z ∧ z ≤ 99) : (Lib.itoa z).length = if z < 10 then 1 else 2 := by
  obtain ⟨n, rfl⟩ : ∃ n : Nat, z = (n : Int) := ⟨z.toNat, by omega⟩
  rw [itoa_nat, dec2 n (by omega)]
  by_cases h1 : n < 10
  · rw [if_pos h1, if_pos (by omega)]
  · rw [if_neg h1, if_neg (by omega)]
theorem pad_pos (z v : Int) (hz : 2 ≤ z ∧ z ≤ 100) (hv : 0 ≤ v ∧ v < z) (h1 : 10 < z) (h2 : v < 10) : padZ (padZ 1 (Lib.itoa (z - 1))).length (Lib.itoa v) = 48 :: Lib.itoa v := by
  have a := itoa_len (z - 1) (by omega); have b := itoa_len v (by omega)
  rw [if_neg (by omega)] at a
  rw [if_pos h2] at b
  have e : (padZ 1 (Lib.itoa (z - 1))).length = 2 := by rw [padZ_len, a]; rfl
  rw [e, padZ, b]
  rfl
theorem pad_neg (z v : Int) (hz : 2 ≤ z ∧ z ≤ 100) (hv : 0 ≤ v ∧ v < z) (h : ¬ (10 < z ∧ v < 10)) : padZ (padZ 1 (Lib.itoa (z - 1))).length (Lib.itoa v) = Lib.itoa v := by
  have a := itoa_len (z - 1) (by omega); have b := itoa_len v (by omega)
  have e : (padZ 1 (Lib.itoa (z - 1))).length ≤ (Lib.itoa v).length := by
    rw [padZ_len, a, b]
    by_cases h1 : 10 < z
    · rw [if_neg (show ¬ v < 10 by omega)]; split <;> decide
    · rw [if_pos (show z - 1 < 10 by omega)]; split <;> decide
  rw [padZ, Nat.sub_eq_zero_of_le e]
  rfl
theorem shift_sep (sep : List UInt8) : ∀ r : List (List UInt8), (r.map (sep ++ ·)).flatten ++ sep = sep ++ (r.map (· ++ sep)).flatten
  | [] => by simp
  | y :: r => by
    have h := shift_sep sep r
    simp only [List.map_cons, List.flatten_cons, List.append_assoc] at h ⊢
    rw [h]
theorem join_snoc (sep x : List UInt8) (l : List (List UInt8)) : Lib.join (l ++ [x]) sep = (l.map (· ++ sep)).flatten ++ x := by
  cases l with
  | nil => simp [Lib.join_one]
  | cons y r =>
    have h := shift_sep sep r
    rw [List.cons_append, Lib.join_cons, Lib.joinTail, List.map_append, List.flatten_append, List.map_cons, List.flatten_cons]
    simp only [List.map_cons, List.map_nil, List.flatten_cons, List.flatten_nil, List.append_nil, List.append_assoc]
    rw [← List.append_assoc _ sep x, h]
    simp
/-- the text behind k wheels -/
def accT (zs : List Int) (wd : Nat → Nat) (k : Nat) : List UInt8 := if k < zs.length then ((List.range k).map fun j => txP zs wd (zs.length - 1 - j) ++ [58]).flatten else txT zs wd
theorem txT_eq (zs : List Int) (wd : Nat → Nat) : txT zs wd = Lib.join ((List.range zs.length).map fun j => txP zs wd (zs.length - 1 - j)) [58] := by
  unfold txT
  congr 1
  apply List.ext_getElem?
  intro i
  simp only [txL, List.map_map, List.getElem?_map]
  by_cases h : i < zs.length
  · simp [h]
  · simp [h]
theorem accT_zero (zs : List Int) (wd : Nat → Nat) (h : 1 ≤ zs.length) : accT zs wd 0 = [] := by rw [accT, if_pos (by omega)]; rfl
theorem accT_succ (zs : List Int) (wd : Nat → Nat) (k : Nat) (h : k + 1 < zs.length) : accT zs wd (k + 1) = accT zs wd k ++ txP zs wd (zs.length - 1 - k) ++ [58] := by
  unfold accT
  rw [if_pos h, if_pos (by omega), List.range_succ, List.map_append, List.flatten_append]
  simp
theorem accT_last (zs : List Int) (wd : Nat → Nat) (k : Nat) (h : k + 1 = zs.length) : accT zs wd (k + 1) = accT zs wd k ++ txP zs wd (zs.length - 1 - k) := by
  unfold accT
  rw [if_neg (by omega), if_pos (by omega), txT_eq, ← h, List.range_succ, List.map_append, List.map_cons, List.map_nil, join_snoc, List.map_map]
  rfl
theorem accT_all (zs : List Int) (wd : Nat → Nat) : accT zs wd zs.length = txT zs wd := by unfold accT; rw [if_neg (by omega)]
theorem accT_len (zs : List Int) (wd : Nat → Nat) (m : Nat) (h : ∀ k, k < zs.length → (txP zs wd k).length ≤ m) (h8 : zs.length ≤ 8) : ∀ k, k ≤ zs.length → (accT zs wd k).length ≤ 8 * (m + 1) := fun k hk => by
  have aux : ∀ k, k < zs.length → (accT zs wd k).length ≤ k * (m + 1) := by
    intro k
    induction k with
    | zero => intro hk; rw [accT_zero _ _ (by omega)]; simp
    | succ k ih =>
      intro hk
      rw [accT_succ _ _ _ hk]
      have a := ih (by omega); have b := h (zs.length - 1 - k) (by omega)
      simp only [List.length_append, List.length_cons, List.length_nil, Nat.add_mul]
      omega
  have mono : ∀ a, a ≤ 8 → a * (m + 1) ≤ 8 * (m + 1) := fun a ha => Nat.mul_le_mul_right _ ha
  by_cases hl : k < zs.length
  · exact Nat.le_trans (aux k hl) (mono k (by omega))
  · obtain rfl : k = zs.length := by omega
    rw [accT_all]
    exact Nat.le_trans (txT_len zs wd m h) (mono _ h8)
theorem cel_get {d0 d1 d2 d3 d4 d5 d6 d7 : Int} (d : Nat) (h : d < 8) : ([.int .u8 d0, .int .u8 d1, .int .u8 d2, .int .u8 d3, .int .u8 d4, .int .u8 d5, .int .u8 d6, .int .u8 d7] : List Value)[d]? = some (.int .u8 (([d0, d1, d2, d3, d4, d5, d6, d7] : List Int)[d]?.getD 0)) := by
  match d, h with
  | 0, _ => rfl
  | 1, _ => rfl
  | 2, _ => rfl
  | 3, _ => rfl
  | 4, _ => rfl
  | 5, _ => rfl
  | 6, _ => rfl
  | 7, _ => rfl
end Go.Proofs.YtfifnngdmhdkiaaGreatDoor
