/- Lists that are read line by line, over any reader of a line. -/
import Derived.Test.YtoenefhobjpfdaaGreatDoorLnM
namespace Go.Proofs.YtoenefhobjpfdaaGreatDoor
open Go.RowKit
set_option linter.unusedVariables false
set_option linter.unusedSimpArgs false
theorem filterMap_all {α : Type} {W : List UInt8 → Option α} : ∀ ps : List (List UInt8), (ps.all fun p => (W p).isSome) = true → ps.map W = (ps.filterMap W).map some
  | [], _ => rfl
  | p :: r, h => by
    simp only [List.all_cons, Bool.and_eq_true] at h
    obtain ⟨a, ha⟩ := Option.isSome_iff_exists.1 h.1
    rw [List.map_cons, List.filterMap_cons, ha, filterMap_all r h.2]
    rfl
/-- the list of a text, each line by W -/
def linesJ {α : Type} (W : List UInt8 → Option α) (l : List UInt8) : Option (List α) := if (spl 10 l).getLast? = some [] ∧ ((spl 10 l).dropLast.all fun p => (W p).isSome) = true then some ((spl 10 l).dropLast.filterMap W) else none
theorem linesJ_of {α : Type} {W : List UInt8 → Option α} {T : α → List UInt8} {xs : List α} (h1 : ∀ a ∈ xs, W (T a) = some a) (h2 : ∀ a ∈ xs, (10 : UInt8) ∉ T a) : linesJ W (lnT (xs.map T)) = some xs := by
  have hs : spl 10 (lnT (xs.map T)) = xs.map T ++ [[]] := lnT_spl (fun p hp => by
    simp only [List.mem_map] at hp
    obtain ⟨a, ha, rfl⟩ := hp
    exact h2 a ha)
  unfold linesJ
  rw [hs, List.dropLast_concat]
  have hm : ((xs.map T).all fun p => (W p).isSome) = true := by
    rw [List.all_eq_true]
    intro p hp
    simp only [List.mem_map] at hp
    obtain ⟨a, ha, rfl⟩ := hp
    rw [h1 a ha]
    rfl
  rw [if_pos ⟨by simp, hm⟩]
  congr 1
  clear hs hm
  induction xs with
  | nil => rfl
  | cons a r ih =>
    rw [List.map_cons, List.filterMap_cons, h1 a (by simp)]
    simp only
    rw [ih (fun b hb => h1 b (List.mem_cons_of_mem _ hb)) (fun b hb => h2 b (List.mem_cons_of_mem _ hb))]
theorem linesJ_out {α : Type} {W : List UInt8 → Option α} {T : α → List UInt8} {ok : α → Prop} (hW : ∀ p a, W p = some a → ok a ∧ T a = p) {l : List UInt8} {xs : List α} (h : linesJ W l = some xs) : (∀ a ∈ xs, ok a) ∧ lnT (xs.map T) = l := by
  unfold linesJ at h
  split at h
  · rename_i hc
    obtain ⟨hc1, hc2⟩ := hc
    injection h with h
    obtain ⟨ls, hl, he⟩ := spl_lines hc1
    rw [hl, List.dropLast_concat] at h hc2
    have hm := filterMap_all ls hc2
    rw [h] at hm
    have key : ∀ (ls : List (List UInt8)) (xs : List α), ls.map W = xs.map some → (∀ a ∈ xs, ok a) ∧ xs.map T = ls := by
      intro ls
      induction ls with
      | nil =>
        intro xs e
        cases xs with
        | nil => exact ⟨(fun a ha => by cases ha), rfl⟩
        | cons a r => cases e
      | cons p r ih =>
        intro xs e
        cases xs with
        | nil => cases e
        | cons a r2 =>
          simp only [List.map_cons] at e
          injection e with e1 e2
          obtain ⟨x, y⟩ := ih r2 e2
          obtain ⟨u, v⟩ := hW p a e1
          refine ⟨fun b hb => ?_, by rw [List.map_cons, v, y]⟩
          rcases List.mem_cons.1 hb with rfl | hb
          · exact u
          · exact x b hb
    obtain ⟨x, y⟩ := key ls xs hm
    exact ⟨x, by rw [y]; exact he⟩
  · cases h
/-- two lists with one text are one list -/
theorem lines_inj {α : Type} {W : List UInt8 → Option α} {T : α → List UInt8} {xs bs : List α} (h1 : ∀ a ∈ xs, W (T a) = some a) (h2 : ∀ a ∈ xs, (10 : UInt8) ∉ T a) (k1 : ∀ a ∈ bs, W (T a) = some a) (k2 : ∀ a ∈ bs, (10 : UInt8) ∉ T a) (e : lnT (xs.map T) = lnT (bs.map T)) : xs = bs := by
  have a := linesJ_of h1 h2
  rw [e, linesJ_of k1 k2] at a
  exact (Option.some.inj a).symm
/-- the program's lines of a text, at most k pieces -/
def wLn (k : Nat) (t : ByteArray) : List ByteArray := Lib.splitB ⟨#[10]⟩ 0 (min k (t.size + 1) - 1) t
theorem map_read {α : Type} {R : ByteArray → Option α} {T : α → List UInt8} : ∀ (ps : List ByteArray) (xs : List α), ps.map (·.data.toList) = xs.map T → (∀ a ∈ xs, ∀ p : ByteArray, p.data.toList = T a → R p = some a) → ps.map R = xs.map some
  | [], [], _, _ => rfl
  | [], _ :: _, e, _ => by cases e
  | _ :: _, [], e, _ => by cases e
  | p :: r, a :: s, e, h => by
    simp only [List.map_cons] at e ⊢
    injection e with e1 e2
    rw [h a (by simp) p e1, map_read r s e2 (fun b hb => h b (List.mem_cons_of_mem _ hb))]
/-- the program reads what was written: every line but the last -/
theorem wLn_read {α : Type} {R : ByteArray → Option α} {T : α → List UInt8} {k : Nat} {t : ByteArray} {xs : List α} (hR : ∀ a ∈ xs, ∀ p : ByteArray, p.data.toList = T a → R p = some a) (hN : ∀ a ∈ xs, (10 : UInt8) ∉ T a) (hk : xs.length < k) (e : t.data.toList = lnT (xs.map T)) : (wLn k t).dropLast.map R = xs.map some := by
  refine map_read _ xs ?_ hR
  have h := lines_of (t := t) (ls := xs.map T) (k := k) (fun p hp => by
    simp only [List.mem_map] at hp
    obtain ⟨a, ha, rfl⟩ := hp
    exact hN a ha) (by simpa using hk) e
  have h2 := congrArg List.dropLast h
  rw [List.dropLast_concat] at h2
  rw [← h2]
  unfold wLn
  rw [← List.map_dropLast]
theorem wLn_len (k : Nat) (t : ByteArray) (hk : 1 ≤ k) : (wLn k t).length ≤ k ∧ 1 ≤ (wLn k t).length := by
  have := Lib.splitB_length_le ⟨#[10]⟩ 0 (min k (t.size + 1) - 1) t
  refine ⟨by unfold wLn; omega, ?_⟩
  unfold wLn
  cases hk : min k (t.size + 1) - 1 with
  | zero => simp [Lib.splitB]
  | succ j => unfold Lib.splitB; split <;> simp
end Go.Proofs.YtoenefhobjpfdaaGreatDoor
