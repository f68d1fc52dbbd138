/- Photos: eight pairs of 64-bit numbers: how they lie in memory; copied. -/
import Derived.Test.YtgfdfnlbkljgeaaOpen
import Derived.Deep.RegionHeld3
import Derived.Deep.MidRow
import Derived.RegionTactic
import Derived.KernelRfl
namespace Go.Proofs.Ytgfdfnlbkljgeaa
open Go.RowKit

def pa (ps : List (Int × Int)) (j : Nat) : Int := (ps[j]?.getD (0, 0)).1
def pb (ps : List (Int × Int)) (j : Nat) : Int := (ps[j]?.getD (0, 0)).2
/-- cell i of a photo -/
def phc (ps : List (Int × Int)) (i : Nat) : Value := if i % 2 = 0 then .int .u64 (pa ps (i / 2)) else .int .u64 (pb ps (i / 2))
/-- the cells of a photo -/
def phL (ps : List (Int × Int)) : List Value := (List.range 16).map (phc ps)
/-- the first k wheels of the one, the others of the other -/
def mix (ps qs : List (Int × Int)) (k : Nat) : List Value := (List.range 16).map fun i => if i < k * 2 then phc ps i else phc qs i
/-- what a photo may hold -/
def Ph (ps : List (Int × Int)) : Prop := ∀ j, (0 ≤ pa ps j ∧ pa ps j ≤ 18446744073709551615) ∧ (0 ≤ pb ps j ∧ pb ps j ≤ 18446744073709551615)
theorem phL_len (ps : List (Int × Int)) : (phL ps).length = 16 := by simp [phL]
theorem mix_len (ps qs : List (Int × Int)) (k : Nat) : (mix ps qs k).length = 16 := by simp [mix]
theorem mix_zero (ps qs : List (Int × Int)) : mix ps qs 0 = phL qs := by simp [mix, phL]
theorem mix_all (ps qs : List (Int × Int)) (n : Nat) (h : 8 ≤ n) : mix ps qs n = phL ps := by
  unfold mix phL
  apply List.map_congr_left
  intro i hi
  have := List.mem_range.1 hi
  rw [if_pos (by omega)]
theorem phL_nil : phL [] = List.replicate 16 (Value.int .u64 0) := rfl
theorem sz16 (ps : List (Int × Int)) : (phL ps).toArray.size = 16 := by simp [phL_len]
theorem phL_one (ps : List (Int × Int)) : ∀ v ∈ phL ps, v.oneCell' = true := by
  intro v hv
  simp only [phL, List.mem_map] at hv
  obtain ⟨i, _, rfl⟩ := hv
  unfold phc
  split <;> rfl
theorem phL_at (ps : List (Int × Int)) (k : Nat) (hk : k < 8) : (phL ps)[k * 2]? = some (.int .u64 (pa ps k)) ∧ (phL ps)[k * 2 + 1]? = some (.int .u64 (pb ps k)) := by
  have h0 : (k * 2) % 2 = 0 := by omega
  have h1 : (k * 2 + 1) % 2 = 1 := by omega
  have h2 : (k * 2) / 2 = k := by omega
  have h3 : (k * 2 + 1) / 2 = k := by omega
  have h4 : k * 2 < 16 := by omega
  have h5 : k * 2 + 1 < 16 := by omega
  exact ⟨by simp [phL, phc, h0, h2, h4], by simp [phL, phc, h1, h3, h5]⟩
theorem mix_at (ps qs : List (Int × Int)) (n k : Nat) (hk : k < 8) (hn : n ≤ k) : (mix ps qs n)[k * 2]? = some (.int .u64 (pa qs k)) ∧ (mix ps qs n)[k * 2 + 1]? = some (.int .u64 (pb qs k)) := by
  have h0 : (k * 2) % 2 = 0 := by omega
  have h1 : (k * 2 + 1) % 2 = 1 := by omega
  have h2 : (k * 2) / 2 = k := by omega
  have h3 : (k * 2 + 1) / 2 = k := by omega
  have h4 : k * 2 < 16 := by omega
  have h5 : k * 2 + 1 < 16 := by omega
  have h6 : ¬ k * 2 < n * 2 := by omega
  have h7 : ¬ k * 2 + 1 < n * 2 := by omega
  exact ⟨by simp [mix, phc, h0, h2, h4, h6], by simp [mix, phc, h1, h3, h5, h7]⟩
theorem mix_set (ps qs : List (Int × Int)) (k : Nat) (hk : k < 8) : ((mix ps qs k).set (k * 2) (.int .u64 (pa ps k))).set (k * 2 + 1) (.int .u64 (pb ps k)) = mix ps qs (k + 1) := by
  apply List.ext_getElem?
  intro i
  simp only [mix, List.getElem?_set, List.getElem?_map, List.length_map, List.length_range, List.length_set]
  by_cases h1 : k * 2 + 1 = i
  · subst h1
    have : (k * 2 + 1) % 2 = 1 := by omega
    have h3 : (k * 2 + 1) / 2 = k := by omega
    have h4 : k * 2 + 1 < 16 := by omega
    have h5 : k * 2 + 1 < (k + 1) * 2 := by omega
    simp [h4, h5, phc, this, h3]
  · rw [if_neg h1]
    by_cases h2 : k * 2 = i
    · subst h2
      have : (k * 2) % 2 = 0 := by omega
      have h3 : (k * 2) / 2 = k := by omega
      have h4 : k * 2 < 16 := by omega
      have h5 : k * 2 < (k + 1) * 2 := by omega
      simp [h4, h5, phc, this, h3]
    · rw [if_neg h2]
      by_cases hi : i < 16
      · simp only [List.getElem?_range hi, Option.map_some]
        by_cases h3 : i < k * 2
        · rw [if_pos h3, if_pos (by omega)]
        · rw [if_neg h3, if_neg (by omega)]
      · simp [List.getElem?_eq_none (show (List.range 16).length ≤ i by simp; omega)]
theorem Try.infoPhoto : (Try.prog.info? 31).map (·.size) = some 16 := by kernel_rfl
theorem Try.infoPhoto' : (Try.prog.info? 25).map (·.size) = some 16 := by kernel_rfl
theorem Row.there {w : World} {g : Nat} {e : TypeId} {xs : List Value} (h : Row w g e xs) (n : Nat) (hn : n = xs.length) : w.there g 0 n := fun j hj => by
  rw [Nat.zero_add, h.cell]
  exact ⟨by rw [List.getElem?_eq_getElem (by omega)]; rfl, h.frozen j⟩
theorem Row.range {w : World} {g : Nat} {e : TypeId} {xs : List Value} (h : Row w g e xs) : w.rangeAt g 0 xs := fun j v hv => by
  rw [Nat.zero_add, h.cell]; exact hv
/-- a whole row is stored anew -/
theorem Row.setCells_from {w : World} {g : Nat} {e : TypeId} : ∀ (ys xs : List Value) (o : Nat), Row w g e xs → o + ys.length = xs.length → Row (w.setCells g o ys) g e (xs.take o ++ ys)
  | [], xs, o, h, hl => by
    simp at hl
    rw [World.setCells, List.append_nil, List.take_of_length_le (by omega)]; exact h
  | y :: r, xs, o, h, hl => by
    simp at hl
    rw [World.setCells]
    have := Row.setCells_from (w := w.setCell ⟨g, o, none⟩ y) r (xs.set o y) (o + 1) (h.set o y) (by simp; omega)
    rwa [List.take_set, List.take_succ_eq_append_getElem (by omega), List.set_append_right _ _ (by simp; omega), show o - (xs.take o).length = 0 from by simp; omega, List.append_assoc, List.set_cons_zero, List.cons_append, List.nil_append] at this
theorem Row.setCells {w : World} {g : Nat} {e : TypeId} {xs ys : List Value} (h : Row w g e xs) (hl : ys.length = xs.length) : Row (w.setCells g 0 ys) g e ys := by
  have := Row.setCells_from ys xs 0 h (by omega)
  simpa using this
theorem below_setCells {n : Nat} {a : World} {g : Nat} : ∀ (ys : List Value) (o : Nat) (w : World), Below n a w → n ≤ g → Below n a (w.setCells g o ys)
  | [], _, _, h, _ => h
  | _ :: r, o, _, h, hg => by rw [World.setCells]; exact below_setCells r (o + 1) _ (h.setCell hg _) hg

set_option maxHeartbeats 400000 in
theorem toMarks_any (x y : Int) (w : World) :
    Calls Try.prog 40 #[.agg #[.int .u64 x, .int .u64 y]] w fun e w' => e = .returned (.agg #[.int .u64 x, .int .u64 y]) ∧ Below w.heap.size w w' := by
  go_enter Try.func40, Try.ntmps40
  go_wp2
  refine wp_loop_rounds 3 ?_
  iterate 3 (rw [rounds_succ]; go_wp2)
  exact bodyPost_ret (v := .agg #[.int .u64 x, .int .u64 y]) (by simp [results, Try.results40, go_sem]) rfl ⟨rfl, ((((Below.refl _ _).alloc (Nat.le_refl _) _).alloc (by simp) _).alloc (by simp; omega) _)⟩

/-- a whole box is stored, and loaded -/
theorem Row.stores {P : Program} {w : World} {g : Nat} {e : TypeId} {xs : List Value} (h : Row w g e xs) (ys : List Value) (hl : ys.length = xs.length) (h1 : ∀ v ∈ ys, v.oneCell' = true) : Sem.run P (storeCells ⟨g, 0, none⟩ ys) w = .ok () (w.setCells g 0 ys) := by
  have ht := h.there ys.length hl
  have := run_storeCells_cells (P := P) g 0 ys 0 w (fun j hj => by simpa using (ht j hj).1) (fun j hj => by simpa using (ht j hj).2) h1
  simpa using this
theorem Row.loads {P : Program} {w : World} {g : Nat} {e : TypeId} {xs : List Value} (h : Row w g e xs) (n : Nat) (hn : n = xs.length) : Sem.run P (loadCellsFrom ⟨g, 0, none⟩ 0 n #[]) w = .ok xs.toArray w := by
  subst hn
  have := run_loadCells_list (P := P) w ⟨g, 0, none⟩ xs (fun j v hv => by rw [Addr.add_mid]; exact h.range j v hv)
  simpa [loadCells] using this
/-- a new photo's box -/
theorem Row.zeros {w : World} {g : Nat} {e : TypeId} (h : Row w g e [.int .u64 0, .int .u64 0, .int .u64 0, .int .u64 0, .int .u64 0, .int .u64 0, .int .u64 0, .int .u64 0, .int .u64 0, .int .u64 0, .int .u64 0, .int .u64 0, .int .u64 0, .int .u64 0, .int .u64 0, .int .u64 0]) : Row w g e (phL []) := h

set_option maxRecDepth 100000 in
set_option maxHeartbeats 1000000 in
theorem toPhoto_any (ps : List (Int × Int)) (w : World) :
    Calls Try.prog 15 #[.agg (phL ps).toArray] w fun e w' => e = .returned (.agg (phL ps).toArray) ∧ Below w.heap.size w w' := by
  have r1 := ((Row.new w 25 (phL ps)).alloc (.cells #[.int .u64 0, .int .u64 0, .int .u64 0, .int .u64 0, .int .u64 0, .int .u64 0, .int .u64 0, .int .u64 0, .int .u64 0, .int .u64 0, .int .u64 0, .int .u64 0, .int .u64 0, .int .u64 0, .int .u64 0, .int .u64 0] 31)).alloc (.cells #[.int .u64 0, .int .u64 0, .int .u64 0, .int .u64 0, .int .u64 0, .int .u64 0, .int .u64 0, .int .u64 0, .int .u64 0, .int .u64 0, .int .u64 0, .int .u64 0, .int .u64 0, .int .u64 0, .int .u64 0, .int .u64 0] 31)
  have r2 := ((Row.new (w.alloc (.cells (phL ps).toArray 25)) 31 [.int .u64 0, .int .u64 0, .int .u64 0, .int .u64 0, .int .u64 0, .int .u64 0, .int .u64 0, .int .u64 0, .int .u64 0, .int .u64 0, .int .u64 0, .int .u64 0, .int .u64 0, .int .u64 0, .int .u64 0, .int .u64 0]).alloc (.cells #[.int .u64 0, .int .u64 0, .int .u64 0, .int .u64 0, .int .u64 0, .int .u64 0, .int .u64 0, .int .u64 0, .int .u64 0, .int .u64 0, .int .u64 0, .int .u64 0, .int .u64 0, .int .u64 0, .int .u64 0, .int .u64 0] 31)).zeros
  have r3 := (Row.new ((w.alloc (.cells (phL ps).toArray 25)).alloc (.cells #[.int .u64 0, .int .u64 0, .int .u64 0, .int .u64 0, .int .u64 0, .int .u64 0, .int .u64 0, .int .u64 0, .int .u64 0, .int .u64 0, .int .u64 0, .int .u64 0, .int .u64 0, .int .u64 0, .int .u64 0, .int .u64 0] 31)) 31 [.int .u64 0, .int .u64 0, .int .u64 0, .int .u64 0, .int .u64 0, .int .u64 0, .int .u64 0, .int .u64 0, .int .u64 0, .int .u64 0, .int .u64 0, .int .u64 0, .int .u64 0, .int .u64 0, .int .u64 0, .int .u64 0]).zeros
  have hB : Below w.heap.size w (((w.alloc (.cells (phL ps).toArray 25)).alloc (.cells #[.int .u64 0, .int .u64 0, .int .u64 0, .int .u64 0, .int .u64 0, .int .u64 0, .int .u64 0, .int .u64 0, .int .u64 0, .int .u64 0, .int .u64 0, .int .u64 0, .int .u64 0, .int .u64 0, .int .u64 0, .int .u64 0] 31)).alloc (.cells #[.int .u64 0, .int .u64 0, .int .u64 0, .int .u64 0, .int .u64 0, .int .u64 0, .int .u64 0, .int .u64 0, .int .u64 0, .int .u64 0, .int .u64 0, .int .u64 0, .int .u64 0, .int .u64 0, .int .u64 0, .int .u64 0] 31)) := (((Below.refl _ _).alloc (Nat.le_refl _) _).alloc (by simp) _).alloc (by simp; omega) _
  simp only [World.size_alloc] at r2 r3
  go_enter Try.func15, Try.ntmps15
  go_wp2_with fail
  go_loopw [4] (fun i wr => ∃ k : Nat, k ≤ 8 ∧ i = .int .i64 k ∧ Row wr w.heap.size 25 (phL ps) ∧ Row wr (w.heap.size + 1) 31 (phL []) ∧ Row wr (w.heap.size + 1 + 1) 31 (mix ps [] k) ∧ Below w.heap.size w wr) (fun i _ => 8 - (intOf i).toNat)
  case atStart => exact ⟨0, Nat.zero_le _, rfl, r1, r2, by rw [mix_zero]; exact r3, hB⟩
  case round =>
    clear r1 r2 r3 hB
    obtain ⟨k, hk, rfl, r1, r2, r3, hB⟩ := hrel
    by_cases hlt : k < 8
    · obtain ⟨p1, p2⟩ := phL_at ps k hlt
      have c1 := (r1.cell (k * 2)).trans p1
      have c2 := (r1.cell (k * 2 + 1)).trans p2
      have hlt0 : (k : Int) < 8 := by omega
      go_wp2_with fail
      refine (toMarks_any (pa ps k) (pb ps k) _).mono ?_
      rintro e w1 ⟨rfl, hB1⟩
      clear c1 c2 p1 p2
      have l1 := r1.lt; have l2 := r2.lt; have l3 := r3.lt
      have s1 := r1.below hB1 l1
      have s2 := r2.below hB1 l2
      have s3 := r3.below hB1 l3
      have hB2 := hB.trans (hB1.mono (by omega))
      obtain ⟨q1, q2⟩ := mix_at ps [] k k hlt (Nat.le_refl _)
      have o1 := (s3.cell (k * 2)).trans q1
      have o2 := (s3.cell (k * 2 + 1)).trans q2
      have f1 := s3.frozen (k * 2)
      have f2 := s3.frozen (k * 2 + 1)
      have S3 := (s3.set (k * 2) (.int .u64 (pa ps k))).set (k * 2 + 1) (.int .u64 (pb ps k))
      rw [mix_set ps [] k hlt] at S3
      have S1 := (s1.other (a := ⟨w.heap.size + 1 + 1, k * 2, none⟩) (by first | (simp; done) | (simp; omega)) (.int .u64 (pa ps k))).other (a := ⟨w.heap.size + 1 + 1, k * 2 + 1, none⟩) (by first | (simp; done) | (simp; omega)) (.int .u64 (pb ps k))
      have S2 := (s2.other (a := ⟨w.heap.size + 1 + 1, k * 2, none⟩) (by first | (simp; done) | (simp; omega)) (.int .u64 (pa ps k))).other (a := ⟨w.heap.size + 1 + 1, k * 2 + 1, none⟩) (by first | (simp; done) | (simp; omega)) (.int .u64 (pb ps k))
      have SB := (hB2.setCell (p := ⟨w.heap.size + 1 + 1, k * 2, none⟩) (by first | (simp; done) | (simp; omega)) (.int .u64 (pa ps k))).setCell (p := ⟨w.heap.size + 1 + 1, k * 2 + 1, none⟩) (by first | (simp; done) | (simp; omega)) (.int .u64 (pb ps k))
      clear q1 q2 s1 s2 s3 r1 r2 r3 hB hB1 hB2 l1 l2 l3
      go_wp2
      go_roundw
      case rel => exact ⟨k + 1, by omega, by go_num, S1, S2, S3, SB⟩
      case measure => simp [intOf]; omega
    · obtain rfl : k = 8 := by omega
      rw [mix_all _ _ 8 (Nat.le_refl _)] at r3
      have hi := Try.infoPhoto
      have R2 := hid (r2.setCells (ys := phL ps) rfl)
      have T2 := r2.there 16 rfl
      have SB := hid (below_setCells (phL ps) 0 wr hB (g := w.heap.size + 1) (by omega))
      clear r2 hB
      go_wp2_with (first | (refine wpList_load_row rfl 31 _ rfl (w.heap.size + 1 + 1) rfl 31 (phL ps).toArray (0, 0) _ r3 Try.underlying31 rfl (by rw [hi]; simp [phL_len]) ?_) | (refine wpList_store_mid rfl 31 _ _ rfl (w.heap.size + 1) 0 (phL ps).toArray rfl rfl (by simpa [phL_len] using T2) (by rw [hi]; simp [phL_len]) (all_oneCell_toArray (phL_one ps)) ?_))
      exact bodyPost_ret (v := .agg (phL ps).toArray) (results_cell_row (fn := Try.f15) rfl _ _ _ _ _ (0, 0) _ rfl R2.out Try.underlying31 rfl (by rw [hi]; simp [phL_len])) rfl ⟨rfl, SB.out⟩
end Go.Proofs.Ytgfdfnlbkljgeaa
