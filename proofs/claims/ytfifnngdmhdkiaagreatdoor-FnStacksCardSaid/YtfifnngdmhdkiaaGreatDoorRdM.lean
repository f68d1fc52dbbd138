/- Texts that are split and joined; numbers of texts. -/
import Derived.Lib.Split
import Derived.Lib.IndexBytes
import Derived.Lib.IndexLaws
import Derived.Lib.IndexMore
import Derived.Lib.Join
import Derived.Lib.ItoaNum
import Derived.Lib.ParseIntBCases
namespace Go.Proofs.YtfifnngdmhdkiaaGreatDoor
set_option linter.unusedVariables false
set_option linter.unusedSimpArgs false
def hdA (a : List UInt8) : List (List UInt8) → List (List UInt8)
  | [] => [a]
  | p :: ps => (a ++ p) :: ps
def spl (c : UInt8) : List UInt8 → List (List UInt8)
  | [] => [[]]
  | x :: r => if x = c then [] :: spl c r else hdA [x] (spl c r)
theorem hdA_nil {l : List (List UInt8)} (h : l ≠ []) : hdA [] l = l := by cases l with | nil => exact absurd rfl h | cons p ps => rfl
theorem hdA_app (a b : List UInt8) {l : List (List UInt8)} (h : l ≠ []) : hdA a (hdA b l) = hdA (a ++ b) l := by
  cases l with | nil => exact absurd rfl h | cons p ps => simp [hdA]
theorem hdA_ne (a : List UInt8) (l : List (List UInt8)) : hdA a l ≠ [] := by cases l <;> simp [hdA]
theorem spl_ne (c : UInt8) : ∀ l, spl c l ≠ []
  | [] => by simp [spl]
  | x :: r => by
    unfold spl
    split
    · simp
    · exact hdA_ne _ _
theorem spl_app (c : UInt8) (l : List UInt8) : ∀ p : List UInt8, c ∉ p → spl c (p ++ c :: l) = p :: spl c l
  | [], _ => by simp [spl]
  | x :: r, h => by
    have hx : ¬ x = c := fun e => h (by simp [e])
    have hr : c ∉ r := fun e => h (by simp [e])
    rw [List.cons_append, spl, if_neg hx, spl_app c l r hr]
    rfl
theorem spl_one (c : UInt8) : ∀ p : List UInt8, c ∉ p → spl c p = [p]
  | [], _ => rfl
  | x :: r, h => by
    have hx : ¬ x = c := fun e => h (by simp [e])
    have hr : c ∉ r := fun e => h (by simp [e])
    rw [spl, if_neg hx, spl_one c r hr]
    rfl
theorem join_two (c : UInt8) (p q : List UInt8) (r : List (List UInt8)) : Lib.join (p :: q :: r) [c] = p ++ c :: Lib.join (q :: r) [c] := by
  rw [Lib.join_cons, Lib.join_cons]
  simp [Lib.joinTail]
theorem spl_join (c : UInt8) : ∀ ps : List (List UInt8), ps ≠ [] → (∀ p ∈ ps, c ∉ p) → spl c (Lib.join ps [c]) = ps
  | [], h, _ => absurd rfl h
  | [p], _, h => by rw [Lib.join_one]; exact spl_one c p (h p (by simp))
  | p :: q :: r, _, h => by
    rw [join_two, spl_app c _ p (h p (by simp)), spl_join c (q :: r) (by simp) (fun x hx => h x (List.mem_cons_of_mem _ hx))]
theorem join_hdA (c x : UInt8) (l : List (List UInt8)) (h : l ≠ []) : Lib.join (hdA [x] l) [c] = x :: Lib.join l [c] := by
  cases l with
  | nil => exact absurd rfl h
  | cons p ps => simp [hdA, Lib.join_cons]
theorem join_spl (c : UInt8) : ∀ l, Lib.join (spl c l) [c] = l
  | [] => by simp [spl, Lib.join_one]
  | x :: r => by
    unfold spl
    split
    · rename_i h
      subst h
      obtain ⟨p, ps, e⟩ : ∃ p ps, spl x r = p :: ps := by
        cases hh : spl x r with
        | nil => exact absurd hh (spl_ne x r)
        | cons p ps => exact ⟨p, ps, rfl⟩
      have := join_spl x r
      rw [e] at this ⊢
      rw [join_two, this]; rfl
    · rw [join_hdA c x _ (spl_ne c r), join_spl c r]
theorem indexByte_app (c : UInt8) (l : List UInt8) : ∀ p : List UInt8, c ∉ p → Lib.indexByte (p ++ c :: l) c = p.length
  | [], _ => by simp [Lib.indexByte]
  | x :: r, h => by
    have hx : ¬ x = c := fun e => h (by simp [e])
    have hr : c ∉ r := fun e => h (by simp [e])
    have ih := indexByte_app c l r hr
    rw [List.cons_append, Lib.indexByte]
    simp only [beq_iff_eq, hx, if_false, ih, List.length_cons]
    split <;> omega
theorem indexByte_no (c : UInt8) : ∀ p : List UInt8, c ∉ p → Lib.indexByte p c = -1
  | [], _ => by simp [Lib.indexByte]
  | x :: r, h => by
    have hx : ¬ x = c := fun e => h (by simp [e])
    have hr : c ∉ r := fun e => h (by simp [e])
    rw [Lib.indexByte]
    simp [hx, indexByte_no c r hr]
theorem splitK_join (c : UInt8) : ∀ (k : Nat) (ps : List (List UInt8)), ps ≠ [] → (∀ p ∈ ps, c ∉ p) → ps.length ≤ k + 1 → Lib.splitK [c] 0 k (Lib.join ps [c]) = ps
  | _, [], h, _, _ => absurd rfl h
  | 0, [p], _, h, _ => by rw [Lib.join_one]; rfl
  | k + 1, [p], _, h, _ => by
    rw [Lib.join_one, Lib.splitK, Lib.index_one, indexByte_no c p (h p (by simp))]
    rfl
  | 0, p :: q :: r, _, _, hl => by simp at hl
  | k + 1, p :: q :: r, _, h, hl => by
    rw [join_two, Lib.splitK, Lib.index_one, indexByte_app c _ p (h p (by simp))]
    have e1 : ((p.length : Int) == -1) = false := by simp
    rw [e1]
    simp only [Bool.false_eq_true, if_false, Int.toNat_natCast, Nat.add_zero, List.length_cons, List.length_nil]
    rw [show p ++ c :: Lib.join (q :: r) [c] = (p ++ [c]) ++ Lib.join (q :: r) [c] by simp]
    rw [List.drop_left' (by simp), show (p ++ [c] ++ Lib.join (q :: r) [c]).take p.length = p by rw [List.append_assoc, List.take_left' rfl]]
    rw [splitK_join c k (q :: r) (by simp) (fun x hx => h x (List.mem_cons_of_mem _ hx)) (by simp at hl ⊢; omega)]
/-- numbers as they are read: what digits spell -/
def digB (x : UInt8) : Bool := decide (48 ≤ x.toNat) && decide (x.toNat ≤ 57)
def numV (l : List UInt8) : Nat := l.foldl (fun n x => 10 * n + (x.toNat - 48)) 0
theorem numV_snoc (l : List UInt8) (x : UInt8) : numV (l ++ [x]) = 10 * numV l + (x.toNat - 48) := by simp [numV]
/-- the text of a number as it is written -/
def canB (l : List UInt8) : Bool := decide (1 ≤ l.length) && decide (l.length ≤ 9) && (decide (l.length = 1) || decide (l[0]? ≠ some 48)) && l.all digB
theorem dig_byte {x : UInt8} (h : digB x = true) : UInt8.ofNat (48 + (x.toNat - 48)) = x ∧ x.toNat - 48 < 10 := by
  simp [digB] at h
  have h2 : UInt8.toNat x < 256 := UInt8.toNat_lt x
  refine ⟨?_, by omega⟩
  apply UInt8.toNat_inj.1
  rw [UInt8.toNat_ofNat']
  omega
theorem snocInd {P : List UInt8 → Prop} (h0 : P []) (h1 : ∀ l x, P l → P (l ++ [x])) : ∀ l, P l := by
  have : ∀ (n : Nat) (l : List UInt8), l.length = n → P l := by
    intro n
    induction n with
    | zero => intro l hl; rw [List.length_eq_zero_iff.1 hl]; exact h0
    | succ n ih =>
      intro l hl
      have hne : l ≠ [] := by intro e; subst e; simp at hl
      rw [← List.dropLast_concat_getLast hne]
      exact h1 _ _ (ih _ (by simp [hl]))
  exact fun l => this _ l rfl
theorem numV_pos : ∀ (l : List UInt8), l ≠ [] → l[0]? ≠ some 48 → l.all digB = true → 1 ≤ numV l := fun l => by
  refine snocInd (P := fun l => l ≠ [] → l[0]? ≠ some 48 → l.all digB = true → 1 ≤ numV l) (fun h => absurd rfl h) (fun l x ih => ?_) l
  · intro _ h0 hd
    rw [numV_snoc]
    simp only [List.all_append, Bool.and_eq_true] at hd
    by_cases hl : l = []
    · subst hl
      simp at h0 hd
      have := hd
      simp [digB] at this
      have : x.toNat ≠ 48 := fun e => h0 (UInt8.toNat_inj.1 (by rw [e]; rfl))
      simp [numV]; omega
    · have : 1 ≤ numV l := ih hl (by rw [List.getElem?_append_left (by cases l with | nil => exact absurd rfl hl | cons => simp)] at h0; exact h0) hd.1
      omega
theorem dec_numV : ∀ (l : List UInt8), l ≠ [] → (l.length = 1 ∨ l[0]? ≠ some 48) → l.all digB = true → Lib.decDigits (numV l) = l := fun l => by
  refine snocInd (P := fun l => l ≠ [] → (l.length = 1 ∨ l[0]? ≠ some 48) → l.all digB = true → Lib.decDigits (numV l) = l) (fun h => absurd rfl h) (fun l x ih => ?_) l
  · intro _ h0 hd
    rw [numV_snoc]
    simp only [List.all_append, Bool.and_eq_true] at hd
    have hx : digB x = true := by simpa using hd.2
    obtain ⟨e, e2⟩ := dig_byte hx
    by_cases hl : l = []
    · subst hl
      rw [Lib.decDigits, dif_pos (by simp [numV]; omega)]
      simp [numV, e]
    · have h1 : l[0]? ≠ some 48 := by
        rcases h0 with h0 | h0
        · simp at h0; exact absurd h0 hl
        · rw [List.getElem?_append_left (by cases l with | nil => exact absurd rfl hl | cons => simp)] at h0; exact h0
      have hp := numV_pos l hl h1 hd.1
      rw [Lib.decDigits, dif_neg (by omega), show (10 * numV l + (x.toNat - 48)) / 10 = numV l by omega, show (10 * numV l + (x.toNat - 48)) % 10 = x.toNat - 48 by omega, e, ih hl (.inr h1) hd.1]
theorem ofNat_dig (d : Nat) (h : d < 10) : (UInt8.ofNat (48 + d)).toNat = 48 + d := by rw [UInt8.toNat_ofNat']; omega
theorem can_dec : ∀ (k n : Nat), n < 10 ^ k → 1 ≤ k → (Lib.decDigits n).length ≤ k ∧ 1 ≤ (Lib.decDigits n).length ∧ (Lib.decDigits n).all digB = true ∧ numV (Lib.decDigits n) = n ∧ ((Lib.decDigits n).length = 1 ∨ (Lib.decDigits n)[0]? ≠ some 48)
  | 0, n, h, h1 => by omega
  | k + 1, n, h, _ => by
    rw [Lib.decDigits]
    by_cases hn : n < 10
    · rw [dif_pos hn]
      have := ofNat_dig n hn
      refine ⟨by simp, by simp, by simp only [List.all_cons, List.all_nil, digB, this]; simp; omega, by simp only [numV, List.foldl_cons, List.foldl_nil, this]; omega, .inl rfl⟩
    · rw [dif_neg hn]
      have hk : 1 ≤ k := by
        by_cases hk : k = 0
        · subst hk; simp at h; omega
        · omega
      obtain ⟨h1, h2, h3, h4, h5⟩ := can_dec k (n / 10) (by rw [Nat.pow_succ] at h; omega) hk
      have e := ofNat_dig (n % 10) (by omega)
      refine ⟨by simp; omega, by simp, by simp only [List.all_append, h3, List.all_cons, List.all_nil, digB, e]; simp; omega, by rw [numV_snoc, h4, e]; omega, .inr ?_⟩
      rw [List.getElem?_append_left (by omega)]
      rcases h5 with h5 | h5
      · intro h0
        have h6 : Lib.decDigits (n / 10) = [48] := by
          match hh : Lib.decDigits (n / 10), h5, h0 with
          | [x], _, h0 => simp at h0; rw [h0]
        rw [h6] at h4
        simp [numV] at h4
        omega
      · exact h5
theorem can_of (n : Nat) (h : n < 1000000000) : canB (Lib.decDigits n) = true ∧ numV (Lib.decDigits n) = n := by
  obtain ⟨h1, h2, h3, h4, h5⟩ := can_dec 9 n (by simpa using h) (by omega)
  refine ⟨?_, h4⟩
  unfold canB
  simp only [Bool.and_eq_true, Bool.or_eq_true, decide_eq_true_eq]
  exact ⟨⟨⟨h2, h1⟩, h5⟩, h3⟩
theorem of_can {l : List UInt8} (h : canB l = true) : Lib.decDigits (numV l) = l := by
  unfold canB at h
  simp only [Bool.and_eq_true, Bool.or_eq_true, decide_eq_true_eq] at h
  exact dec_numV l (by intro e; subst e; simp at h) h.1.2 h.2
/-- digits that are read by ParseUint at eight bits -/
theorem parseM_num (M : Nat) (hM : M ≤ 255) : ∀ (l : List UInt8) (acc : Nat), acc ≤ M → l.all digB = true → l.foldl (fun n x => 10 * n + (x.toNat - 48)) acc ≤ M → Lib.parseUintM M acc l = .ok (l.foldl (fun n x => 10 * n + (x.toNat - 48)) acc)
  | [], acc, _, _, _ => rfl
  | x :: r, acc, ha, hd, hle => by
    simp only [List.all_cons, Bool.and_eq_true] at hd
    have hx := hd.1
    simp [digB] at hx
    have mono : ∀ (r : List UInt8) (a : Nat), a ≤ r.foldl (fun n x => 10 * n + (x.toNat - 48)) a := by
      intro r
      induction r with
      | nil => intro a; exact Nat.le_refl _
      | cons y r ih => intro a; exact Nat.le_trans (by omega) (ih (10 * a + (y.toNat - 48)))
    have h2 := mono r (10 * acc + (x.toNat - 48))
    simp only [List.foldl_cons] at hle ⊢
    rw [Lib.parseUintM, if_pos (by omega), if_neg (by omega), if_neg (by omega), show acc * 10 + (x.toNat - 48) = 10 * acc + (x.toNat - 48) by omega]
    exact parseM_num M hM r _ (by omega) hd.2 hle
theorem parse8_num {l : List UInt8} (h : l ≠ []) (hd : l.all digB = true) (hle : numV l ≤ 255) : Lib.parseUintB 8 l = .ok (numV l) := by
  unfold Lib.parseUintB
  rw [if_neg h]
  exact parseM_num 255 (Nat.le_refl _) l 0 (by omega) hd hle
end Go.Proofs.YtfifnngdmhdkiaaGreatDoor
