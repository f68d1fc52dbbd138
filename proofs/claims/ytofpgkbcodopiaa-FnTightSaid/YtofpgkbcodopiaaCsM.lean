/- Stories as told: plain arithmetic of lists. -/
import Derived.Test.YtofpgkbcodopiaaFlowT
import Derived.Test.YtofpgkbcodopiaaFlowE
import Derived.Test.YtofpgkbcodopiaaMgP
import Derived.Test.YtofpgkbcodopiaaValGM
namespace Go.Proofs.Ytofpgkbcodopiaa
set_option linter.unusedVariables false
def lv (ks : List Int) (j : Nat) : Int := ks[j]?.getD 0
/-- something holds below a bound -/
def allB (P : Nat → Bool) (n : Nat) : Bool := (List.range n).all P
theorem allB_yes {P : Nat → Bool} {n : Nat} (h : ∀ j, j < n → P j = true) : allB P n = true := by
  unfold allB; rw [List.all_eq_true]; intro x hx; exact h x (List.mem_range.1 hx)
theorem allB_no {P : Nat → Bool} {n j : Nat} (hj : j < n) (h : P j = false) : allB P n = false := by
  unfold allB; rw [List.all_eq_false]; exact ⟨j, List.mem_range.2 hj, by simp [h]⟩
theorem allB_out {P : Nat → Bool} {n : Nat} (h : allB P n = true) : ∀ j, j < n → P j = true := fun j hj => by
  unfold allB at h; rw [List.all_eq_true] at h; exact h j (List.mem_range.2 hj)
/-- a list has a number -/
def hasL (ks : List Int) (x : Int) : Bool := ks.any (· == x)
theorem hasL_iff {ks : List Int} {x : Int} : hasL ks x = true ↔ x ∈ ks := by
  unfold hasL; rw [List.any_eq_true]; constructor
  · rintro ⟨y, hy, e⟩; rw [← eq_of_beq e]; exact hy
  · intro h; exact ⟨x, h, by simp⟩
theorem lv_mem {ks : List Int} {j : Nat} (h : j < ks.length) : lv ks j ∈ ks := by
  unfold lv; rw [List.getElem?_eq_getElem h]; exact List.getElem_mem h
theorem hasL_at {ks : List Int} {x : Int} {j : Nat} (h : j < ks.length) (e : lv ks j = x) : hasL ks x = true := hasL_iff.2 (e ▸ lv_mem h)
theorem hasL_none {ks : List Int} {x : Int} (h : ∀ j, j < ks.length → lv ks j ≠ x) : hasL ks x = false := by
  cases hh : hasL ks x with
  | false => rfl
  | true =>
    obtain ⟨j, hj, e⟩ := List.getElem_of_mem (hasL_iff.1 hh)
    exact absurd (by unfold lv; rw [List.getElem?_eq_getElem hj]; exact e) (h j hj)
/-- a list rises from one place on, within bounds -/
def riseP (ks : List Int) (n : Int) (j : Nat) : Bool := decide (0 ≤ lv ks j ∧ lv ks j ≤ n - 1 ∧ (0 < j → lv ks (j - 1) < lv ks j))
theorem riseP_yes {ks : List Int} {n : Int} {j : Nat} (h0 : 0 ≤ lv ks j) (h1 : lv ks j ≤ n - 1) (h2 : 0 < j → lv ks (j - 1) < lv ks j) : riseP ks n j = true := decide_eq_true ⟨h0, h1, h2⟩
theorem riseP_no {ks : List Int} {n : Int} {j : Nat} (h : ¬ (0 ≤ lv ks j ∧ lv ks j ≤ n - 1 ∧ (0 < j → lv ks (j - 1) < lv ks j))) : riseP ks n j = false := decide_eq_false h
theorem riseP_out {ks : List Int} {n : Int} {j : Nat} (h : riseP ks n j = true) : 0 ≤ lv ks j ∧ lv ks j ≤ n - 1 ∧ (0 < j → lv ks (j - 1) < lv ks j) := of_decide_eq_true h
def riseB (ks : List Int) (n : Int) : Bool := allB (riseP ks n) ks.length
/-- so the first numbers of a list are at least their places -/
theorem rise_ge {ks : List Int} {n : Int} : ∀ k, (∀ j, j < k → riseP ks n j = true) → ∀ j, j < k → (j : Int) ≤ lv ks j
  | k, h, 0, hj => (riseP_out (h 0 hj)).1
  | k, h, j + 1, hj => by
    have a := rise_ge k h j (by omega)
    have b := (riseP_out (h (j + 1) hj)).2.2 (by omega)
    simp at b; omega
theorem rise_len {ks : List Int} {n : Int} (h : riseB ks n = true) (hn : 0 ≤ n) : (ks.length : Int) ≤ n := by
  by_cases h0 : ks.length = 0
  · omega
  · have a := rise_ge ks.length (allB_out h) (ks.length - 1) (by omega)
    have b := (riseP_out (allB_out h (ks.length - 1) (by omega))).2.1
    omega
theorem rise_lt {ks : List Int} {n : Int} (h : riseB ks n = true) : ∀ d i, i + d + 1 < ks.length + 0 → lv ks i < lv ks (i + d + 1)
  | 0, i, hi => by have := (riseP_out (allB_out h (i + 1) (by omega))).2.2 (by omega); simpa using this
  | d + 1, i, hi => by
    have a := rise_lt h d i (by omega)
    have b := (riseP_out (allB_out h (i + (d + 1) + 1) (by omega))).2.2 (by omega)
    have e : i + (d + 1) + 1 - 1 = i + d + 1 := by omega
    rw [e] at b
    omega
theorem rise_mono {ks : List Int} {n : Int} (h : riseB ks n = true) {i j : Nat} (hij : i < j) (hj : j < ks.length) : lv ks i < lv ks j := by
  have := rise_lt h (j - i - 1) i (by omega)
  rwa [show i + (j - i - 1) + 1 = j by omega] at this
theorem rise_inj {ks : List Int} {n : Int} (h : riseB ks n = true) {i j : Nat} (hi : i < ks.length) (hj : j < ks.length) (e : lv ks i = lv ks j) : i = j := by
  rcases Nat.lt_trichotomy i j with c | c | c
  · have := rise_mono h c hj; omega
  · exact c
  · have := rise_mono h c hi; omega
theorem rise_nodup {ks : List Int} {n : Int} (h : riseB ks n = true) : ks.Nodup := by
  unfold List.Nodup
  rw [List.pairwise_iff_getElem]
  intro i j hi hj hij e
  have := rise_mono h hij hj
  unfold lv at this
  rw [List.getElem?_eq_getElem hi, List.getElem?_eq_getElem hj] at this
  simp only [Option.getD_some] at this
  omega
theorem nodup_sub : ∀ (F bs : List Int), F.Nodup → (∀ x ∈ F, x ∈ bs) → F.length ≤ bs.length
  | [], bs, _, _ => Nat.zero_le _
  | a :: F, bs, hF, hs => by
    have hF' := List.nodup_cons.1 hF
    have ha : a ∈ bs := hs a (List.mem_cons_self)
    have h1 := nodup_sub F (bs.erase a) hF'.2 (fun x hx => (List.mem_erase_of_ne (fun e => by rw [e] at hx; exact hF'.1 hx)).2 (hs x (List.mem_cons_of_mem _ hx)))
    rw [List.length_erase_of_mem ha] at h1
    have := List.length_pos_of_mem ha
    simp only [List.length_cons]; omega
theorem sub_all {F bs : List Int} (hF : F.Nodup) (hb : bs.Nodup) (hs : ∀ x ∈ F, x ∈ bs) : F.length = bs.length ↔ ∀ b ∈ bs, b ∈ F := by
  constructor
  · intro e b hbm
    refine Decidable.byContradiction fun hn => ?_
    have h1 := nodup_sub F (bs.erase b) hF (fun x hx => (List.mem_erase_of_ne (fun e => by rw [e] at hx; exact hn hx)).2 (hs x hx))
    rw [List.length_erase_of_mem hbm] at h1
    have := List.length_pos_of_mem hbm
    omega
  · intro h
    have := nodup_sub F bs hF hs
    have := nodup_sub bs F hb h
    omega
/-- how many of a list's numbers behind the first one, up to a place, are among others -/
def brkN (ks bs : List Int) : Nat → Nat
  | 0 => 0
  | k + 1 => brkN ks bs k + (if hasL bs (lv ks (k + 1)) then 1 else 0)
theorem brkN_le (ks bs : List Int) : ∀ k, brkN ks bs k ≤ k
  | 0 => Nat.le_refl _
  | k + 1 => by have := brkN_le ks bs k; rw [brkN]; split <;> omega
theorem brkN_is (ks bs : List Int) : ∀ k, k + 1 ≤ ks.length → brkN ks bs k = ((ks.tail.take k).filter (fun x => hasL bs x)).length
  | 0, _ => by simp [brkN]
  | k + 1, h => by
    have e : ks.tail.take (k + 1) = ks.tail.take k ++ [lv ks (k + 1)] := by
      rw [List.take_add_one]
      congr 1
      rw [List.getElem?_tail]
      unfold lv
      rw [List.getElem?_eq_getElem (by omega)]
      rfl
    rw [brkN, brkN_is ks bs k (by omega), e, List.filter_append, List.length_append]
    congr 1
    simp only [List.filter_cons, List.filter_nil]
    split <;> rfl
theorem brk_all {ks bs : List Int} {n m : Int} (hk : riseB ks n = true) (hb : riseB bs m = true) (h0 : 1 ≤ ks.length) :
    brkN ks bs (ks.length - 1) = bs.length ↔ ∀ j, j < bs.length → hasL ks (lv bs j) = true ∧ lv bs j ≠ lv ks 0 := by
  have hnk := rise_nodup hk
  have hnb := rise_nodup hb
  obtain ⟨a, t, rfl⟩ : ∃ a t, ks = a :: t := by
    cases ks with
    | nil => simp at h0
    | cons a t => exact ⟨a, t, rfl⟩
  rw [brkN_is _ _ _ (by simp)]
  have e1 : (a :: t).tail.take ((a :: t).length - 1) = t := by simp
  rw [e1]
  have hn := List.nodup_cons.1 hnk
  rw [sub_all (hn.2.filter _) hnb (fun x hx => hasL_iff.1 (List.mem_filter.1 hx).2)]
  have l0 : lv (a :: t) 0 = a := rfl
  rw [l0]
  constructor
  · intro h j hj
    have := (List.mem_filter.1 (h _ (lv_mem hj))).1
    exact ⟨hasL_iff.2 (List.mem_cons_of_mem _ this), fun e => hn.1 (e ▸ this)⟩
  · intro h b hbm
    obtain ⟨j, hj, e⟩ := List.getElem_of_mem hbm
    have ej : lv bs j = b := by unfold lv; rw [List.getElem?_eq_getElem hj]; exact e
    have h2 := h j hj
    rw [ej] at h2
    refine List.mem_filter.2 ⟨?_, hasL_iff.2 hbm⟩
    rcases List.mem_cons.1 (hasL_iff.1 h2.1) with e2 | e2
    · exact absurd e2 h2.2
    · exact e2
/-- the interval between two readings that are kept: a count is possible -/
def fitK (z : Int) (js : List (Int × Int)) (lo hi : Int) (i k : Nat) : Bool := posI z (rv js k - rv js i) (lo * (rd js k - rd js i)) (hi * (rd js k - rd js i))
def kN (ks : List Int) (j : Nat) : Nat := (lv ks j).toNat
/-- a break that is in a story -/
def brkP (ks bs : List Int) (j : Nat) : Bool := hasL ks (lv bs j) && lv bs j != lv ks 0
/-- what is kept goes on, or has a break -/
def stepP (z : Int) (js : List (Int × Int)) (lo hi : Int) (ks bs : List Int) (j : Nat) : Bool := hasL bs (lv ks (j + 1)) || fitK z js lo hi (kN ks j) (kN ks (j + 1))
/-- a story is as told -/
def tellB (z : Int) (js : List (Int × Int)) (lo hi : Int) (ks bs : List Int) (c : Int) : Bool :=
  riseB ks js.length && (riseB bs js.length && (!(ks.length == 0 && decide (0 < js.length)) && (allB (brkP ks bs) bs.length && (allB (stepP z js lo hi ks bs) (ks.length - 1) && (c == ((js.length : Int) - ks.length) + 2 * bs.length)))))
section
variable {z : Int} {js : List (Int × Int)} {lo hi : Int} {ks bs : List Int} {c : Int}
theorem tell_1 (h : riseB ks js.length = false) : tellB z js lo hi ks bs c = false := by simp [tellB, h]
theorem tell_2 (h : riseB bs js.length = false) : tellB z js lo hi ks bs c = false := by simp [tellB, h]
theorem tell_3 (h : ks.length = 0) (h2 : 0 < js.length) : tellB z js lo hi ks bs c = false := by simp [tellB, h, h2]
theorem tell_4 {j : Nat} (hj : j < bs.length) (h : brkP ks bs j = false) : tellB z js lo hi ks bs c = false := by simp [tellB, allB_no hj h]
theorem tell_5 {j : Nat} (hj : j < ks.length - 1) (h : stepP z js lo hi ks bs j = false) : tellB z js lo hi ks bs c = false := by simp [tellB, allB_no hj h]
theorem tell_6 (h1 : riseB ks js.length = true) (h2 : riseB bs js.length = true) (h3 : ¬ (ks.length = 0 ∧ 0 < js.length)) (h4 : ∀ j, j < bs.length → brkP ks bs j = true) (h5 : ∀ j, j < ks.length - 1 → stepP z js lo hi ks bs j = true) : tellB z js lo hi ks bs c = (c == ((js.length : Int) - ks.length) + 2 * bs.length) := by
  have h3' : (!(ks.length == 0 && decide (0 < js.length))) = true := by
    by_cases a : ks.length = 0
    · have : ¬ 0 < js.length := fun b => h3 ⟨a, b⟩
      simp [this]
    · simp [a]
  unfold tellB
  rw [h1, h2, h3', allB_yes h4, allB_yes h5]
  simp
/-- the program counts the breaks that come up -/
theorem tell_7 (h1 : riseB ks js.length = true) (h2 : riseB bs js.length = true) (h3 : ¬ (ks.length = 0 ∧ 0 < js.length)) (h5 : ∀ j, j < ks.length - 1 → stepP z js lo hi ks bs j = true) :
    tellB z js lo hi ks bs c = (((brkN ks bs (ks.length - 1) : Int) == (bs.length : Int)) && (c == ((js.length : Int) - ks.length) + 2 * (brkN ks bs (ks.length - 1) : Int))) := by
  by_cases h0 : ks.length = 0
  · have hj : js.length = 0 := by
      by_cases a : 0 < js.length
      · exact absurd ⟨h0, a⟩ h3
      · omega
    have hb : bs.length = 0 := by have := rise_len h2 (by omega); omega
    rw [tell_6 h1 h2 h3 (fun j hj => by omega) h5, h0, hb]
    simp [brkN]
  · have key := brk_all h1 h2 (by omega)
    by_cases he : brkN ks bs (ks.length - 1) = bs.length
    · rw [tell_6 h1 h2 h3 (fun j hj => by
        have := key.1 he j hj
        unfold brkP; rw [this.1]; simp [this.2]) h5, he]
      simp
    · have : ¬ ∀ j, j < bs.length → brkP ks bs j = true := fun h => he (key.2 fun j hj => by
        have := h j hj
        unfold brkP at this
        simp only [Bool.and_eq_true, bne_iff_ne, ne_eq] at this
        exact this)
      have hall : allB (brkP ks bs) bs.length = false := by
        cases ha : allB (brkP ks bs) bs.length with
        | false => rfl
        | true => exact absurd (allB_out ha) this
      have hne : ((brkN ks bs (ks.length - 1) : Int) == (bs.length : Int)) = false := by
        simp only [beq_eq_false_iff_ne, ne_eq]; omega
      rw [hne]
      simp [tellB, hall]
end
end Go.Proofs.Ytofpgkbcodopiaa
