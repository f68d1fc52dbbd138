/- Trains and their texts: what is read of what is written. -/
import Derived.Test.YtcbhlljgcndhdaaDoorTrA
import Derived.Test.YtcbhlljgcndhdaaDoorSpB
import Derived.Lib.ParseIntB
import Derived.Lib.ParseIntBTie
namespace Go.Proofs.YtcbhlljgcndhdaaDoor
open Go.RowKit
set_option linter.unusedVariables false
set_option linter.unusedSimpArgs false
theorem parseM_numG (M : Nat) (hM : M < 1844674407370955162) : ∀ (l : List UInt8) (acc : Nat), acc ≤ M → l.all digB = true → l.foldl (fun n x => 10 * n + (x.toNat - 48)) acc ≤ M → Lib.parseUintM M acc l = .ok (l.foldl (fun n x => 10 * n + (x.toNat - 48)) acc)
  | [], acc, _, _, _ => rfl
  | x :: r, acc, ha, hd, hle => by
    simp only [List.all_cons, Bool.and_eq_true] at hd
    have hx := hd.1
    simp [digB] at hx
    have mono : ∀ (r : List UInt8) (a : Nat), a ≤ r.foldl (fun n x => 10 * n + (x.toNat - 48)) a := by
      intro r
      induction r with
      | nil => intro a; exact Nat.le_refl _
      | cons y r ih => intro a; exact Nat.le_trans (by omega) (ih (10 * a + (y.toNat - 48)))
    have h2 := mono r (10 * acc + (x.toNat - 48))
    simp only [List.foldl_cons] at hle ⊢
    rw [Lib.parseUintM, if_pos (by omega), if_neg (by omega), if_neg (by omega), show acc * 10 + (x.toNat - 48) = 10 * acc + (x.toNat - 48) by omega]
    exact parseM_numG M hM r _ (by omega) hd.2 hle
theorem parseI_num (B : Nat) (hB : 2 ^ B - 1 < 1844674407370955162) {l : List UInt8} (h : l ≠ []) (hd : l.all digB = true) (hle : numV l < 2 ^ (B - 1)) (h2 : 2 ^ (B - 1) ≤ 2 ^ B) : Lib.parseIntB B l = .ok (numV l : Int) := by
  match l, h with
  | c :: r, _ =>
    have hc : 48 ≤ c.toNat ∧ c.toNat ≤ 57 := by
      simp only [List.all_cons, Bool.and_eq_true] at hd
      have := hd.1
      simpa [digB] using this
    have e : Lib.parseUintB B (c :: r) = .ok (numV (c :: r)) := by
      unfold Lib.parseUintB
      rw [if_neg (by simp)]
      exact parseM_numG _ hB (c :: r) 0 (by omega) hd (by show numV (c :: r) ≤ _; omega)
    unfold Lib.parseIntB
    simp only
    rw [if_neg (by omega), e]
    simp only
    rw [if_neg (by omega), if_neg (by omega), if_neg (by omega)]
theorem spl_sumT (c : UInt8) : ∀ l, (spl c l).length ≤ l.length + 1
  | [] => by simp [spl]
  | x :: r => by
    have ih := spl_sumT c r
    unfold spl
    split
    · simp; omega
    · cases h : spl c r with
      | nil => exact absurd h (spl_ne c r)
      | cons p ps => rw [h] at ih; simp [hdA] at ih ⊢; omega
theorem cut_one (c : UInt8) (p q : List UInt8) (h : c ∉ p) : Lib.cut (p ++ c :: q) [c] = (p, q, true) := by
  unfold Lib.cut
  rw [Lib.index_one, indexByte_app c q p h, if_pos (by omega)]
  simp only [Int.toNat_natCast, List.length_cons, List.length_nil]
  rw [List.take_left' rfl, show p ++ c :: q = (p ++ [c]) ++ q by simp, List.drop_left' (by simp)]
/-- a number at sixteen bits -/
def pi16 (l : List UInt8) : Option Int := match Lib.parseIntB 16 l with | .ok v => some v | _ => none
/-- what the program makes of a word -/
def rpF (p : ByteArray) : Option (Int × Int) := if (Lib.cut p.data.toList [47]).2.2 then (match pi16 (Lib.cut p.data.toList [47]).1, pi16 (Lib.cut p.data.toList [47]).2.1 with | some a, some b => some (a, b) | _, _ => none) else none
/-- what the model makes of a word -/
def tooth (n : Nat) : Bool := decide (8 ≤ n) && decide (n ≤ 120)
def trW (w : List UInt8) : Option (Int × Int) := match spl 47 w with
  | [a, b] => if canB a && canB b && tooth (numV a) && tooth (numV b) then some ((numV a : Int), (numV b : Int)) else none
  | _ => none
def prT (a b : Int) : List UInt8 := Lib.itoa a ++ [47] ++ Lib.itoa b
theorem dig_no {p : List UInt8} {c : UInt8} (hc : digB c = false) (h : p.all digB = true) : c ∉ p := fun hm => by
  have := List.all_eq_true.1 h c hm
  rw [hc] at this; cases this
theorem dec_all (n : Nat) (h : n < 1000000000) : (Lib.decDigits n).all digB = true := by
  have := (can_of n h).1
  unfold canB at this
  simp only [Bool.and_eq_true] at this
  exact this.2
theorem dec_ne (n : Nat) : Lib.decDigits n ≠ [] := by rw [Lib.decDigits]; split <;> simp
theorem spl_prT (m n : Nat) (hm : m ≤ 120) (hn : n ≤ 120) : spl 47 (prT m n) = [Lib.decDigits m, Lib.decDigits n] := by
  unfold prT
  rw [itoa_nat, itoa_nat, List.append_assoc, List.singleton_append, spl_app 47 _ _ (dig_no (by decide) (dec_all m (by omega))), spl_one 47 _ (dig_no (by decide) (dec_all n (by omega)))]
theorem trW_of (m n : Nat) (hm : 8 ≤ m ∧ m ≤ 120) (hn : 8 ≤ n ∧ n ≤ 120) : trW (prT m n) = some ((m : Int), (n : Int)) := by
  unfold trW
  rw [spl_prT m n hm.2 hn.2]
  simp only
  have a := can_of m (by omega); have b := can_of n (by omega)
  rw [a.1, b.1, a.2, b.2]
  simp [tooth, hm, hn]
theorem trW_out {w : List UInt8} {a b : Int} (h : trW w = some (a, b)) : (8 ≤ a ∧ a ≤ 120) ∧ (8 ≤ b ∧ b ≤ 120) ∧ w = prT a b := by
  unfold trW at h
  split at h
  · rename_i x y hs
    split at h
    · rename_i hc
      simp only [Bool.and_eq_true, tooth, decide_eq_true_eq] at hc
      injection h with h
      injection h with h1 h2
      subst h1; subst h2
      refine ⟨by omega, by omega, ?_⟩
      unfold prT
      rw [itoa_nat, itoa_nat, of_can hc.1.1.1, of_can hc.1.1.2, ← join_spl 47 w, hs, join_two, Lib.join_one]
      simp
    · cases h
  · cases h
theorem rpF_of (m n : Nat) (hm : 8 ≤ m ∧ m ≤ 120) (hn : 8 ≤ n ∧ n ≤ 120) (p : ByteArray) (hp : p.data.toList = prT m n) : rpF p = some ((m : Int), (n : Int)) := by
  unfold rpF
  have e : Lib.cut p.data.toList [47] = (Lib.decDigits m, Lib.decDigits n, true) := by
    rw [hp]
    unfold prT
    rw [itoa_nat, itoa_nat, List.append_assoc, List.singleton_append]
    exact cut_one 47 _ _ (dig_no (by decide) (dec_all m (by omega)))
  have pa : ∀ k : Nat, k ≤ 120 → pi16 (Lib.decDigits k) = some (k : Int) := fun k hk => by
    unfold pi16
    have c := can_of k (by omega)
    rw [parseI_num 16 (by decide) (dec_ne k) (dec_all k (by omega)) (by rw [c.2]; omega) (by decide), c.2]
  rw [e]
  simp only [if_true]
  rw [pa m hm.2, pa n hn.2]
/-- the train of a text -/
def trJ (l : List UInt8) : Option (List (Int × Int)) := if ((spl 32 l).all fun w => (trW w).isSome) && decide ((spl 32 l).length ≤ 4) then some ((spl 32 l).map fun w => (trW w).getD (0, 0)) else none
theorem trP_prT (js : List (Int × Int)) (k : Nat) : trP js k = prT (pd js k) (pn js k) := rfl
theorem okT_at {js : List (Int × Int)} (h : okT js = true) (k : Nat) (hk : k < js.length) : ∃ m n : Nat, js[k]? = some ((m : Int), (n : Int)) ∧ pd js k = m ∧ pn js k = n ∧ (8 ≤ m ∧ m ≤ 120) ∧ (8 ≤ n ∧ n ≤ 120) := by
  have h2 := (okT_out h).2.2 k hk
  unfold wheelOk at h2
  refine ⟨(pd js k).toNat, (pn js k).toNat, ?_, by omega, by omega, by omega, by omega⟩
  have e : js[k]? = some (pd js k, pn js k) := by
    unfold pd pn
    rw [List.getElem?_eq_getElem hk]
    rfl
  rw [e]
  congr 2 <;> omega
theorem trR_spl {js : List (Int × Int)} (h : okT js = true) : spl 32 (trR js) = (List.range js.length).map (trP js) := by
  obtain ⟨h1, h4, _⟩ := okT_out h
  rw [trR_yes h]
  unfold trA
  refine spl_join 32 _ (fun e => ?_) (fun p hp => ?_)
  · have := congrArg List.length e
    simp at this
    rw [this] at h1; simp at h1
  · simp only [List.mem_map, List.mem_range] at hp
    obtain ⟨k, hk, rfl⟩ := hp
    obtain ⟨m, n, _, e1, e2, hm, hn⟩ := okT_at h k hk
    rw [trP_prT, e1, e2]
    unfold prT
    rw [itoa_nat, itoa_nat]
    simp only [List.mem_append, List.mem_singleton, not_or]
    exact ⟨⟨dig_no (by decide) (dec_all m (by omega)), by decide⟩, dig_no (by decide) (dec_all n (by omega))⟩
theorem trJ_of {js : List (Int × Int)} (h : okT js = true) : trJ (trR js) = some js := by
  obtain ⟨h1, h4, _⟩ := okT_out h
  have hw : ∀ k, k < js.length → trW (trP js k) = js[k]? := fun k hk => by
    obtain ⟨m, n, e0, e1, e2, hm, hn⟩ := okT_at h k hk
    rw [trP_prT, e1, e2, trW_of m n hm hn, e0]
  unfold trJ
  rw [trR_spl h, if_pos]
  · congr 1
    apply List.ext_getElem?
    intro k
    by_cases hk : k < js.length
    · rw [List.map_map, List.getElem?_map, List.getElem?_range hk]
      simp only [Option.map_some, Function.comp]
      rw [hw k hk, List.getElem?_eq_getElem hk]
      rfl
    · rw [List.getElem?_eq_none (by simp; omega), List.getElem?_eq_none (by omega)]
  · simp only [Bool.and_eq_true, decide_eq_true_eq, List.all_eq_true, List.mem_map, List.mem_range, List.length_map, List.length_range]
    refine ⟨?_, h4⟩
    rintro w ⟨k, hk, rfl⟩
    rw [hw k hk, List.getElem?_eq_getElem hk]
    rfl
theorem trJ_out {l : List UInt8} {js : List (Int × Int)} (h : trJ l = some js) : okT js = true ∧ trR js = l ∧ js.length = (spl 32 l).length ∧ ∀ k, k < js.length → ∃ m n : Nat, js[k]? = some ((m : Int), (n : Int)) ∧ (spl 32 l)[k]? = some (prT m n) ∧ (8 ≤ m ∧ m ≤ 120) ∧ (8 ≤ n ∧ n ≤ 120) := by
  unfold trJ at h
  split at h
  · rename_i hc
    simp only [Bool.and_eq_true, decide_eq_true_eq, List.all_eq_true] at hc
    injection h with h
    have hlen : js.length = (spl 32 l).length := by rw [← h]; simp
    have hat : ∀ k, k < js.length → ∃ m n : Nat, js[k]? = some ((m : Int), (n : Int)) ∧ (spl 32 l)[k]? = some (prT m n) ∧ (8 ≤ m ∧ m ≤ 120) ∧ (8 ≤ n ∧ n ≤ 120) := fun k hk => by
      have hk2 : k < (spl 32 l).length := by rw [← hlen]; exact hk
      have hs := hc.1 _ (List.getElem_mem hk2)
      obtain ⟨⟨a, b⟩, hab⟩ := Option.isSome_iff_exists.1 hs
      obtain ⟨ha, hb, he⟩ := trW_out hab
      refine ⟨a.toNat, b.toNat, ?_, ?_, by omega, by omega⟩
      · rw [← h, List.getElem?_map, List.getElem?_eq_getElem hk2]
        simp only [Option.map_some]
        rw [hab]
        simp only [Option.getD_some]
        congr 2 <;> omega
      · rw [List.getElem?_eq_getElem hk2, he]
        congr 2 <;> omega
    have hne : 1 ≤ js.length := by
      rw [hlen]
      cases hh : spl 32 l with
      | nil => exact absurd hh (spl_ne 32 l)
      | cons => simp
    have hok : okT js = true := okT_all hne (by rw [hlen]; exact hc.2) (fun k hk => by
      obtain ⟨m, n, e0, _, hm, hn⟩ := hat k hk
      unfold pd pn wheelOk
      rw [e0]
      simp
      omega)
    refine ⟨hok, ?_, hlen, hat⟩
    rw [trR_yes hok]
    unfold trA
    have e : (List.range js.length).map (trP js) = spl 32 l := by
      apply List.ext_getElem?
      intro k
      by_cases hk : k < js.length
      · obtain ⟨m, n, e0, e1, _, _⟩ := hat k hk
        rw [e1, List.getElem?_map, List.getElem?_range hk]
        simp only [Option.map_some]
        rw [trP_prT]
        unfold pd pn
        rw [e0]
        rfl
      · rw [List.getElem?_eq_none (by simp; omega), List.getElem?_eq_none (by rw [← hlen]; omega)]
    rw [e, join_spl]
  · cases h
/-- the program's words -/
def w5 (t : ByteArray) : List ByteArray := Lib.splitB ⟨#[32]⟩ 0 (min 5 (t.size + 1) - 1) t
theorem w5_of {t : ByteArray} {js : List (Int × Int)} (h : trJ t.data.toList = some js) : ((w5 t).all fun p => (rpF p).isSome) = true ∧ ((w5 t).map fun p => (rpF p).getD (0, 0)) = js := by
  obtain ⟨l, hl⟩ : ∃ l, t.data.toList = l := ⟨_, rfl⟩
  rw [hl] at h
  obtain ⟨hok, _, hlen, hat⟩ := trJ_out h
  have h4 := (okT_out hok).2.1
  have hsum := spl_sumT 32 l
  have hsz : t.size = l.length := by rw [← hl, Array.length_toList]; rfl
  have hw : (w5 t).map (·.data.toList) = spl 32 l := by
    unfold w5
    rw [Lib.splitB_data, hl]
    have e := splitK_join 32 (min 5 (t.size + 1) - 1) (spl 32 l) (spl_ne 32 l) (fun p hp => ?_) (by omega)
    · rw [join_spl] at e
      exact e
    · obtain ⟨k, hk, rfl⟩ := List.getElem_of_mem hp
      obtain ⟨m, n, _, e1, hm, hn⟩ := hat k (by rw [hlen]; exact hk)
      rw [List.getElem?_eq_getElem hk] at e1
      injection e1 with e1
      rw [e1]
      unfold prT
      rw [itoa_nat, itoa_nat]
      simp only [List.mem_append, List.mem_singleton, not_or]
      exact ⟨⟨dig_no (by decide) (dec_all m (by omega)), by decide⟩, dig_no (by decide) (dec_all n (by omega))⟩
  have hwl : (w5 t).length = js.length := by rw [hlen, ← hw]; simp
  have hrp : ∀ k (hk : k < (w5 t).length), rpF (w5 t)[k] = js[k]? := fun k hk => by
    obtain ⟨m, n, e0, e1, hm, hn⟩ := hat k (by rw [← hwl]; exact hk)
    have e2 : (w5 t)[k].data.toList = prT m n := by
      have : ((w5 t).map (·.data.toList))[k]? = some (w5 t)[k].data.toList := by rw [List.getElem?_map, List.getElem?_eq_getElem hk]; rfl
      rw [hw, e1] at this
      injection this with this
      exact this.symm
    rw [rpF_of m n hm hn _ e2, e0]
  refine ⟨?_, ?_⟩
  · rw [List.all_eq_true]
    intro p hp
    obtain ⟨k, hk, rfl⟩ := List.getElem_of_mem hp
    rw [hrp k hk, List.getElem?_eq_getElem (by rw [← hwl]; exact hk)]
    rfl
  · apply List.ext_getElem?
    intro k
    by_cases hk : k < (w5 t).length
    · rw [List.getElem?_map, List.getElem?_eq_getElem hk]
      simp only [Option.map_some]
      rw [hrp k hk, List.getElem?_eq_getElem (by rw [← hwl]; exact hk)]
      rfl
    · rw [List.getElem?_eq_none (by simp; omega), List.getElem?_eq_none (by omega)]
end Go.Proofs.YtcbhlljgcndhdaaDoor
