/- DigitsText; the program's. -/
import Derived.Test.YtklkdbfdejabiaaGreatDoorTxC
import Derived.Test.YtklkdbfdejabiaaGreatDoorDigits
namespace Go.Proofs.YtklkdbfdejabiaaGreatDoor
open Go.RowKit Go.Shelf
set_option linter.unusedVariables false
set_option linter.unusedSimpArgs false
theorem padZ_len (wd : Nat) (l : List UInt8) : (padZ wd l).length = max wd l.length := by
  simp [padZ]; omega
theorem dec2 (n : Nat) (h : n < 100) : (Lib.decDigits n).length = if n < 10 then 1 else 2 := by
  rw [Lib.decDigits]
  by_cases h1 : n < 10
  · rw [dif_pos h1, if_pos h1]; rfl
  · rw [dif_neg h1, if_neg h1, Lib.decDigits, dif_pos (by omega)]; rfl
theorem itoa2 (z : Int) (h : 0 ≤ z ∧ z ≤ 99) : (Lib.itoa z).length ≤ 2 := by
  obtain ⟨n, rfl⟩ : ∃ n : Nat, z = (n : Int) := ⟨z.toNat, by omega⟩
  rw [itoa_nat, dec2 n (by omega)]
  split <;> omega
theorem fmt_int (z : Int) (h : 0 ≤ z ∧ z ≤ 99) (w : World) : Calls Tryz.prog 68 #[.int .i64 z, .int .i64 10] w fun e w' => e = .returned (.string ⟨(Lib.itoa z).toArray⟩) ∧ Below w.heap.size w w' := by
  obtain ⟨n, rfl⟩ : ∃ n : Nat, z = (n : Int) := ⟨z.toNat, by omega⟩
  exact fmt_small n (by omega) w
theorem tail_len (m : Nat) : ∀ (l : List (List UInt8)), (∀ x ∈ l, x.length ≤ m) → (Lib.joinTail [58] l).length ≤ l.length * (m + 1)
  | [], _ => by simp [Lib.joinTail]
  | x :: r, h => by
    have h1 := tail_len m r (fun y hy => h y (by simp [hy]))
    have h2 := h x (by simp)
    simp only [Lib.joinTail, List.map_cons, List.flatten_cons, List.length_append, List.length_cons, List.length_nil, Nat.add_mul] at h1 ⊢
    omega
theorem join_len (m : Nat) (l : List (List UInt8)) (h : ∀ x ∈ l, x.length ≤ m) : (Lib.join l [58]).length ≤ l.length * (m + 1) := by
  cases l with
  | nil => simp [Lib.join_nil]
  | cons x r =>
    rw [Lib.join_cons, List.length_append]
    have h1 := tail_len m r (fun y hy => h y (by simp [hy]))
    have h2 := h x (by simp)
    simp only [List.length_cons, Nat.add_mul]
    omega
theorem txT_len (zs : List Int) (wd : Nat → Nat) (m : Nat) (h : ∀ k, k < zs.length → (txP zs wd k).length ≤ m) : (txT zs wd).length ≤ zs.length * (m + 1) := by
  have := join_len m ((txL zs wd (List.finRange zs.length)).map (·.data.toList)) (fun x hx => by
    simp only [txL, List.map_map, List.mem_map] at hx
    obtain ⟨y, _, rfl⟩ := hx
    have hy := y.2
    exact h _ (by omega))
  simpa [txT, txL] using this
/-- the width of a wheel's digits -/
def wdD (zs : List Int) (k : Nat) : Nat := (padZ 1 (Lib.itoa (ug zs k - 1))).length
def txD (zs ds : List Int) : List UInt8 := if okV zs ds then txT (ds.take zs.length) (wdD zs) else []
theorem txD_no {zs ds : List Int} (h : okV zs ds = false) : txD zs ds = [] := by simp [txD, h]
theorem txD_yes {zs ds : List Int} (h : okV zs ds = true) : txD zs ds = txT (ds.take zs.length) (wdD zs) := by simp [txD, h]
theorem wdD_le (zs : List Int) (k : Nat) (h : 2 ≤ ug zs k ∧ ug zs k ≤ 100) : wdD zs k ≤ 2 := by
  unfold wdD
  rw [padZ_len]
  have := itoa2 (ug zs k - 1) (by omega)
  omega
theorem Row.stkD {w : World} {g : Nat} {t : TypeId} {d0 d1 d2 d3 d4 d5 d6 d7 : Int} (h : Row w g t [.int .u8 d0, .int .u8 d1, .int .u8 d2, .int .u8 d3, .int .u8 d4, .int .u8 d5, .int .u8 d6, .int .u8 d7]) (ho : Oct d0 d1 d2 d3 d4 d5 d6 d7) (n : Nat) (hn : n ≤ 8) : Stk w g (List.take n [d0, d1, d2, d3, d4, d5, d6, d7]) := by
  refine ⟨h.lt, fun j hj => ?_, fun z hz => ?_, by simp; omega⟩
  · rw [h.cell, List.getElem?_take]
    have hj8 : j < 8 := by simp at hj; omega
    have hjn : j < n := by simp at hj; omega
    rw [if_pos hjn]
    match j, hj8 with
    | 0, _ => rfl
    | 1, _ => rfl
    | 2, _ => rfl
    | 3, _ => rfl
    | 4, _ => rfl
    | 5, _ => rfl
    | 6, _ => rfl
    | 7, _ => rfl
  · have := List.mem_of_mem_take hz
    obtain ⟨h0, h1, h2, h3, h4, h5, h6, h7⟩ := ho
    simp only [List.mem_cons, List.not_mem_nil, or_false] at this
    rcases this with rfl | rfl | rfl | rfl | rfl | rfl | rfl | rfl <;> assumption
theorem ug_take (ds : List Int) (n k : Nat) (h : k < n) : ug (ds.take n) k = ds[k]?.getD 0 := by
  unfold ug
  rw [List.getElem?_take, if_pos h]
end Go.Proofs.YtklkdbfdejabiaaGreatDoor
