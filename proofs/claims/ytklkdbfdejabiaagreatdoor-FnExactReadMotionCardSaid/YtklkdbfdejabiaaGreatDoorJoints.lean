/- Joints: slices of structs of two small numbers, copied, compared, opened. -/
import Derived.Test.YtklkdbfdejabiaaGreatDoorOpen
import Derived.Lib.SmallJoins
namespace Go.Proofs.YtklkdbfdejabiaaGreatDoor
open Go.RowKit Go.ChangeShapes Go.WideShapes Go.ChangeAt

def jk (js : List (Int × Int)) (j : Nat) : Int := (js[j]?.getD (0, 0)).1
def jf (js : List (Int × Int)) (j : Nat) : Int := (js[j]?.getD (0, 0)).2
/-- A slice of joints holds js from the head of block b on. -/
def Jst (w : World) (b : Nat) (js : List (Int × Int)) : Prop :=
  b < w.heap.size ∧ (∀ j, j < js.length → w.cell? ⟨b, j * 2, none⟩ = some (.int .i8 (jk js j)) ∧ w.cell? ⟨b, j * 2 + 1, none⟩ = some (.int .i16 (jf js j))) ∧ js.length ≤ 1048576
theorem Jst.below {w w' : World} {b n : Nat} {js : List (Int × Int)} (h : Jst w b js) (hb : Below n w w') (hn : b < n) : Jst w' b js :=
  ⟨Nat.lt_of_lt_of_le h.1 hb.size, fun j hj => ⟨(hb.cell (p := ⟨b, j * 2, none⟩) hn).trans (h.2.1 j hj).1, (hb.cell (p := ⟨b, j * 2 + 1, none⟩) hn).trans (h.2.1 j hj).2⟩, h.2.2⟩
/-- what a law is told of a slice of joints that came in -/
def InJ (w : World) (a : Option Addr) (len : Nat) (js : List (Int × Int)) : Prop :=
  js.length = len ∧ (∀ j, j < len → (-128 ≤ jk js j ∧ jk js j ≤ 127) ∧ (-32768 ≤ jf js j ∧ jf js j ≤ 32767)) ∧ (len = 0 ∨ ∃ b off, a = some ⟨b, off, none⟩ ∧ b < w.heap.size ∧ ∀ j, j < len → w.cell? ⟨b, off + j * 2, none⟩ = some (.int .i8 (jk js j)) ∧ w.cell? ⟨b, off + j * 2 + 1, none⟩ = some (.int .i16 (jf js j)))
theorem InJ.below {w w' : World} {a : Option Addr} {len : Nat} {js : List (Int × Int)} {n : Nat} (h : InJ w a len js) (hb : Below n w w') (hn : w.heap.size ≤ n) : InJ w' a len js := by
  refine ⟨h.1, h.2.1, ?_⟩
  rcases h.2.2 with h0 | ⟨b, off, e, hl, hc⟩
  · exact .inl h0
  · exact .inr ⟨b, off, e, Nat.lt_of_lt_of_le hl hb.size, fun j hj => ⟨(hb.cell (p := ⟨b, off + j * 2, none⟩) (Nat.lt_of_lt_of_le hl hn)).trans (hc j hj).1, (hb.cell (p := ⟨b, off + j * 2 + 1, none⟩) (Nat.lt_of_lt_of_le hl hn)).trans (hc j hj).2⟩⟩

theorem eqJoint_same (k f : Int) (w : World) :
    Calls Tryz.prog 37 #[.agg #[.int .i8 k, .int .i16 f], .agg #[.int .i8 k, .int .i16 f]] w fun e w' => e = .returned (.bool true) ∧ Below w.heap.size w w' := by
  have h1 : (k != k) = false := by simp
  have h2 : (f != f) = false := by simp
  go_enter Tryz.func37, Tryz.ntmps37
  go_wp2
  go_ret
  exact ⟨rfl, ((Below.refl _ _).alloc (Nat.le_refl _) _).alloc (by simp) _⟩

theorem Tryz.infoJoint : (Tryz.prog.info? 39).map (fun i => (i.zero, i.size, i.bytes)) = some (some (.agg #[.int .i8 0, .int .i16 0]), 2, 4) := by kernel_rfl

def jcell (js : List (Int × Int)) (i : Nat) : Value := if i % 2 = 0 then .int .i8 (jk js (i / 2)) else .int .i16 (jf js (i / 2))
def jzero (i : Nat) : Value := if i % 2 = 0 then .int .i8 0 else .int .i16 0
/-- what k rounds of a copy have made of n zero joints -/
def jcp (js : List (Int × Int)) (n k : Nat) : List Value := (List.range (n * 2)).map fun i => if i < k * 2 then jcell js i else jzero i
theorem jcp_len (js : List (Int × Int)) (n k : Nat) : (jcp js n k).length = n * 2 := by simp [jcp]
theorem jcp_zero (js : List (Int × Int)) (n : Nat) : (madeCells (Value.agg #[.int .i8 0, .int .i16 0]).cells (n * 2)).toList = jcp js n 0 := by
  apply List.ext_getElem?
  intro i
  simp only [madeCells, jcp, jzero, Value.cells, Array.toList_map, Array.toList_range, List.getElem?_map]
  by_cases hi : i < n * 2
  · simp only [List.getElem?_range hi, Option.map_some]
    have h2 : i % 2 = 0 ∨ i % 2 = 1 := by omega
    rcases h2 with h2 | h2 <;> simp [h2]
  · simp [List.getElem?_eq_none (show (List.range (n * 2)).length ≤ i by simp; omega)]
theorem jcp_set (js : List (Int × Int)) (n k : Nat) (hk : k < n) : ((jcp js n k).set (k * 2) (.int .i8 (jk js k))).set (k * 2 + 1) (.int .i16 (jf js k)) = jcp js n (k + 1) := by
  apply List.ext_getElem?
  intro i
  simp only [jcp, List.getElem?_set, List.getElem?_map, List.length_map, List.length_range, List.length_set]
  by_cases h1 : k * 2 + 1 = i
  · subst h1
    have : (k * 2 + 1) % 2 = 1 := by omega
    have h3 : (k * 2 + 1) / 2 = k := by omega
    have h4 : k * 2 + 1 < n * 2 := by omega
    have h5 : k * 2 + 1 < (k + 1) * 2 := by omega
    simp [h4, h5, jcell, this, h3]
  · rw [if_neg h1]
    by_cases h2 : k * 2 = i
    · subst h2
      have : (k * 2) % 2 = 0 := by omega
      have h3 : (k * 2) / 2 = k := by omega
      have h4 : k * 2 < n * 2 := by omega
      have h5 : k * 2 < (k + 1) * 2 := by omega
      simp [h4, h5, jcell, this, h3]
    · rw [if_neg h2]
      by_cases hi : i < n * 2
      · simp only [List.getElem?_range hi, Option.map_some]
        by_cases h3 : i < k * 2
        · rw [if_pos h3, if_pos (by omega)]
        · rw [if_neg h3, if_neg (by omega)]
      · simp [List.getElem?_eq_none (show (List.range (n * 2)).length ≤ i by simp; omega)]
theorem jcp_get (js : List (Int × Int)) (n : Nat) (j : Nat) (hj : j < n) : (jcp js n n)[j * 2]? = some (.int .i8 (jk js j)) ∧ (jcp js n n)[j * 2 + 1]? = some (.int .i16 (jf js j)) := by
  have h0 : (j * 2) % 2 = 0 := by omega
  have h1 : (j * 2 + 1) % 2 = 1 := by omega
  have h2 : (j * 2) / 2 = j := by omega
  have h3 : (j * 2 + 1) / 2 = j := by omega
  have h4 : j * 2 < n * 2 := by omega
  have h5 : j * 2 + 1 < n * 2 := by omega
  exact ⟨by simp [jcp, jcell, h0, h2, h4], by simp [jcp, jcell, h1, h3, h5]⟩
theorem Row.of_ownsN {w : World} {base g n cap sz : Nat} {e : TypeId} {xs : List Value} (h : w.ownsRow base e sz (.slice (some ⟨g, 0, none⟩) n cap) n xs) (hn : n = cap) : Row w g e xs := by
  subst hn
  rcases h.2 with ⟨h', _⟩ | ⟨g', cap', cur, h', hb, hg, hnc, hcm, hcs, htake⟩
  · simp at h'
  · simp only [Value.slice.injEq, Option.some.injEq, Addr.mk.injEq, and_true, true_and] at h'
    obtain ⟨rfl, rfl⟩ := h'
    unfold Row
    rw [hg, ← htake, List.take_of_length_le (by simp [hcs])]
theorem jk_take (js : List (Int × Int)) (n j : Nat) (h : j < n) : jk (js.take n) j = jk js j := by simp [jk, h]
theorem jf_take (js : List (Int × Int)) (n j : Nat) (h : j < n) : jf (js.take n) j = jf js j := by simp [jf, h]

end Go.Proofs.YtklkdbfdejabiaaGreatDoor
