/- Bits of 64-bit numbers; photos that are valid. -/
import Derived.Test.YtgfdfnlbkljgeaaMeet
import Derived.Test.YtgfdfnlbkljgeaaEqA
import Derived.Test.YtgfdfnlbkljgeaaPhF
import Derived.Laws.BitsAllLaws
namespace Go.Proofs.Ytgfdfnlbkljgeaa
open Go.RowKit
theorem ofInt_inj {a b : Int} (ha : 0 ≤ a ∧ a ≤ 18446744073709551615) (hb : 0 ≤ b ∧ b ≤ 18446744073709551615) (h : BitVec.ofInt 64 a = BitVec.ofInt 64 b) : a = b := by
  have := congrArg BitVec.toNat h
  obtain ⟨A, rfl⟩ := Int.eq_ofNat_of_zero_le ha.1
  obtain ⟨B, rfl⟩ := Int.eq_ofNat_of_zero_le hb.1
  rw [BitVec.ofInt_natCast, BitVec.ofInt_natCast, BitVec.toNat_ofNat, BitVec.toNat_ofNat, Nat.mod_eq_of_lt (by omega), Nat.mod_eq_of_lt (by omega)] at this
  rw [this]
theorem bits_bd (op : BinOp) (x y : Int) : 0 ≤ bits op .u64 x y ∧ bits op .u64 x y ≤ 18446744073709551615 := Go.bounds_u64 (wf_bits op .u64 x y)
theorem wrap_bv (v : BitVec 64) : IntKind.u64.wrap (v.toNat : Int) = (v.toNat : Int) := by
  rw [IntKind.wrap_u64]
  have := v.isLt
  omega
theorem of_bv (v : BitVec 64) : BitVec.ofInt 64 (v.toNat : Int) = v := by
  rw [BitVec.ofInt_natCast]; simp
theorem bv_and (x y : Int) : BitVec.ofInt 64 (bits .and .u64 x y) = BitVec.ofInt 64 x &&& BitVec.ofInt 64 y := by
  show BitVec.ofInt 64 (IntKind.u64.wrap ((BitVec.ofInt 64 x &&& BitVec.ofInt 64 y).toNat : Int)) = _
  rw [wrap_bv, of_bv]
theorem bv_or (x y : Int) : BitVec.ofInt 64 (bits .or .u64 x y) = BitVec.ofInt 64 x ||| BitVec.ofInt 64 y := by
  show BitVec.ofInt 64 (IntKind.u64.wrap ((BitVec.ofInt 64 x ||| BitVec.ofInt 64 y).toNat : Int)) = _
  rw [wrap_bv, of_bv]
theorem bv_xor (x y : Int) : BitVec.ofInt 64 (bits .xor .u64 x y) = BitVec.ofInt 64 x ^^^ BitVec.ofInt 64 y := by
  show BitVec.ofInt 64 (IntKind.u64.wrap ((BitVec.ofInt 64 x ^^^ BitVec.ofInt 64 y).toNat : Int)) = _
  rw [wrap_bv, of_bv]
theorem bv_andNot (x y : Int) : BitVec.ofInt 64 (bits .andNot .u64 x y) = BitVec.ofInt 64 x &&& ~~~ BitVec.ofInt 64 y := by
  show BitVec.ofInt 64 (IntKind.u64.wrap ((BitVec.ofInt 64 x &&& ~~~ BitVec.ofInt 64 y).toNat : Int)) = _
  rw [wrap_bv, of_bv]
theorem bv_and_self (x u : BitVec 64) : x &&& u = x ↔ x &&& ~~~ u = 0#64 := by
  constructor
  · intro h
    apply BitVec.eq_of_getLsbD_eq
    intro i hi
    have := congrArg (fun v => v.getLsbD i) h
    simp at this
    simp [hi]
    exact this
  · intro h
    apply BitVec.eq_of_getLsbD_eq
    intro i hi
    have := congrArg (fun v => v.getLsbD i) h
    simp [hi] at this
    simp
    exact this
theorem and_eq_self (x u : Int) (hx : 0 ≤ x ∧ x ≤ 18446744073709551615) : (bits .and .u64 x u == x) = (bits .andNot .u64 x u == 0) := by
  rw [Bool.eq_iff_iff, beq_iff_eq, beq_iff_eq]
  have h := bv_and_self (BitVec.ofInt 64 x) (BitVec.ofInt 64 u)
  rw [← bv_and, ← bv_andNot] at h
  constructor
  · intro e
    have h1 := h.1 (by rw [e])
    exact ofInt_inj (bits_bd _ _ _) ⟨by omega, by omega⟩ (h1.trans (by rfl))
  · intro e
    have h1 := h.2 (by rw [e]; rfl)
    exact ofInt_inj (bits_bd _ _ _) hx h1
def withinM (x y u v : Int) : Bool := bits .andNot .u64 x u == 0 && bits .andNot .u64 y v == 0
/-- the marks of wheel j are right -/
def okW (zs : List Int) (ps : List (Int × Int)) (j : Nat) : Bool := if j < zs.length then !(sameM (pa ps j) (pb ps j) 0 0) && withinM (pa ps j) (pb ps j) (mbel (zs[j]?.getD 0).toNat).1 (mbel (zs[j]?.getD 0).toNat).2 else sameM (pa ps j) (pb ps j) 0 0
def okPh (zs : List Int) (ps : List (Int × Int)) : Bool := okL zs && (List.range 8).all (okW zs ps)
theorem okPh_no {zs : List Int} {ps : List (Int × Int)} (h : okL zs = false) : okPh zs ps = false := by simp [okPh, h]
theorem okPh_yes {zs : List Int} {ps : List (Int × Int)} (h : okL zs = true) : okPh zs ps = (List.range 8).all (okW zs ps) := by simp [okPh, h]
def zeroAt (ps : List (Int × Int)) (j : Nat) : Bool := sameM (pa ps j) (pb ps j) 0 0
def anyZ (ps : List (Int × Int)) (n : Nat) : Bool := (List.range n).any (zeroAt ps)
theorem anyZ_true {ps : List (Int × Int)} {n k : Nat} (hk : k < n) (h : zeroAt ps k = true) : anyZ ps n = true := by
  simp only [anyZ, List.any_eq_true, List.mem_range]
  exact ⟨k, hk, h⟩
theorem anyZ_false {ps : List (Int × Int)} {n : Nat} (h : ∀ j, j < n → zeroAt ps j = false) : anyZ ps n = false := by
  simp only [anyZ, List.any_eq_false, List.mem_range]
  intro j hj; simp [h j hj]
theorem and_zero (x : Int) : bits .and .u64 x 0 = 0 := by
  apply ofInt_inj (bits_bd _ _ _) ⟨by omega, by omega⟩
  rw [bv_and]
  have : BitVec.ofInt 64 0 = 0#64 := rfl
  rw [this]; simp
theorem sameM_comm (x y u v : Int) : sameM x y u v = sameM u v x y := by
  unfold sameM
  rw [Bool.eq_iff_iff]
  simp only [Bool.and_eq_true, beq_iff_eq]
  constructor <;> rintro ⟨a, b⟩ <;> exact ⟨a.symm, b.symm⟩
/-- the program's test is the model's -/
theorem okPh_impl {zs : List Int} {ps : List (Int × Int)} (h : okL zs = true) (hp : Ph ps) : okPh zs ps = (sameP (andP ps (fullP zs)) ps && !(anyZ ps zs.length)) := by
  rw [okPh_yes h]
  have h8 := (okL_in h).1
  have key : ∀ j, j < 8 → okW zs ps j = (sameM (pa (andP ps (fullP zs)) j) (pb (andP ps (fullP zs)) j) (pa ps j) (pb ps j) && !(decide (j < zs.length) && zeroAt ps j)) := by
    intro j hj
    obtain ⟨e1, e2⟩ := meet_at ps (fullP zs) j hj
    rw [e1, e2]
    unfold okW zeroAt
    by_cases hz : j < zs.length
    · rw [if_pos hz, pa_full zs j hz, pb_full zs j hz]
      unfold withinM
      rw [← and_eq_self _ _ (hp j).1, ← and_eq_self _ _ (hp j).2]
      simp only [hz, decide_true, Bool.true_and]
      rw [Bool.and_comm]; rfl
    · rw [if_neg hz]
      have hf := full_out zs j (by omega)
      rw [hf.1, hf.2, and_zero, and_zero]
      simp only [hz, decide_false, Bool.false_and, Bool.not_false, Bool.and_true]
      exact sameM_comm _ _ _ _
  rw [Bool.eq_iff_iff]
  simp only [List.all_eq_true, List.mem_range, Bool.and_eq_true, sameP]
  constructor
  · intro a
    refine ⟨fun j hj => ?_, ?_⟩
    · have := a j hj
      rw [key j hj, Bool.and_eq_true] at this
      exact this.1
    · rw [anyZ_false (fun j hj => ?_)]; rfl
      have := a j (by omega)
      rw [key j (by omega), Bool.and_eq_true] at this
      have h2 := this.2
      simp only [hj, decide_true, Bool.true_and, Bool.not_eq_true'] at h2
      exact h2
  · rintro ⟨a, b⟩ j hj
    rw [key j hj, Bool.and_eq_true]
    refine ⟨a j hj, ?_⟩
    by_cases hz : j < zs.length
    · cases hq : zeroAt ps j with
      | false => simp
      | true => rw [anyZ_true hz hq] at b; simp at b
    · simp [hz]
end Go.Proofs.Ytgfdfnlbkljgeaa
