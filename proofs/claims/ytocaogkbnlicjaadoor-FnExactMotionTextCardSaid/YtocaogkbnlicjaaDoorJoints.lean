/- Joints: slices of structs of two small numbers, copied, compared, opened. -/
import Derived.Test.YtocaogkbnlicjaaDoorOpen
import Derived.Lib.SmallJoins
namespace Go.Proofs.YtocaogkbnlicjaaDoor
open Go.RowKit Go.ChangeShapes Go.WideShapes Go.ChangeAt

def jk (js : List (Int × Int)) (j : Nat) : Int := (js[j]?.getD (0, 0)).1
def jf (js : List (Int × Int)) (j : Nat) : Int := (js[j]?.getD (0, 0)).2
/-- A slice of joints holds js from the head of block b on. -/
def Jst (w : World) (b : Nat) (js : List (Int × Int)) : Prop :=
  b < w.heap.size ∧ (∀ j, j < js.length → w.cell? ⟨b, j * 2, none⟩ = some (.int .i8 (jk js j)) ∧ w.cell? ⟨b, j * 2 + 1, none⟩ = some (.int .i16 (jf js j))) ∧ js.length ≤ 1048576
theorem Jst.below {w w' : World} {b n : Nat} {js : List (Int × Int)} (h : Jst w b js) (hb : Below n w w') (hn : b < n) : Jst w' b js :=
  ⟨Nat.lt_of_lt_of_le h.1 hb.size, fun j hj => ⟨(hb.cell (p := ⟨b, j * 2, none⟩) hn).trans (h.2.1 j hj).1, (hb.cell (p := ⟨b, j * 2 + 1, none⟩) hn).trans (h.2.1 j hj).2⟩, h.2.2⟩
/-- what a law is told of a slice of joints that came in -/
def InJ (w : World) (a : Option Addr) (len : Nat) (js : List (Int × Int)) : Prop :=
  js.length = len ∧ (∀ j, j < len → (-128 ≤ jk js j ∧ jk js j ≤ 127) ∧ (-32768 ≤ jf js j ∧ jf js j ≤ 32767)) ∧ (len = 0 ∨ ∃ b off, a = some ⟨b, off, none⟩ ∧ b < w.heap.size ∧ ∀ j, j < len → w.cell? ⟨b, off + j * 2, none⟩ = some (.int .i8 (jk js j)) ∧ w.cell? ⟨b, off + j * 2 + 1, none⟩ = some (.int .i16 (jf js j)))
theorem InJ.below {w w' : World} {a : Option Addr} {len : Nat} {js : List (Int × Int)} {n : Nat} (h : InJ w a len js) (hb : Below n w w') (hn : w.heap.size ≤ n) : InJ w' a len js := by
  refine ⟨h.1, h.2.1, ?_⟩
  rcases h.2.2 with h0 | ⟨b, off, e, hl, hc⟩
  · exact .inl h0
  · exact .inr ⟨b, off, e, Nat.lt_of_lt_of_le hl hb.size, fun j hj => ⟨(hb.cell (p := ⟨b, off + j * 2, none⟩) (Nat.lt_of_lt_of_le hl hn)).trans (hc j hj).1, (hb.cell (p := ⟨b, off + j * 2 + 1, none⟩) (Nat.lt_of_lt_of_le hl hn)).trans (hc j hj).2⟩⟩

theorem toJoint_any (k f : Int) (w : World) :
    Calls Tryd.prog 64 #[.agg #[.int .i8 k, .int .i16 f]] w fun e w' => e = .returned (.agg #[.int .i8 k, .int .i16 f]) ∧ Below w.heap.size w w' := by
  go_enter Tryd.func64, Tryd.ntmps64
  go_wp2
  exact bodyPost_ret (v := .agg #[.int .i8 k, .int .i16 f]) (by simp [results, Tryd.results64, go_sem]) rfl ⟨rfl, (((Below.refl _ _).alloc (Nat.le_refl _) _).alloc (by simp) _).alloc (by simp; omega) _⟩
theorem eqJoint_same (k f : Int) (w : World) :
    Calls Tryd.prog 70 #[.agg #[.int .i8 k, .int .i16 f], .agg #[.int .i8 k, .int .i16 f]] w fun e w' => e = .returned (.bool true) ∧ Below w.heap.size w w' := by
  have h1 : (k != k) = false := by simp
  have h2 : (f != f) = false := by simp
  go_enter Tryd.func70, Tryd.ntmps70
  go_wp2
  go_ret
  exact ⟨rfl, ((Below.refl _ _).alloc (Nat.le_refl _) _).alloc (by simp) _⟩

theorem Tryd.infoJoint : (Tryd.prog.info? 72).map (fun i => (i.zero, i.size, i.bytes)) = some (some (.agg #[.int .i8 0, .int .i16 0]), 2, 4) := by kernel_rfl

def jcell (js : List (Int × Int)) (i : Nat) : Value := if i % 2 = 0 then .int .i8 (jk js (i / 2)) else .int .i16 (jf js (i / 2))
def jzero (i : Nat) : Value := if i % 2 = 0 then .int .i8 0 else .int .i16 0
/-- what k rounds of a copy have made of n zero joints -/
def jcp (js : List (Int × Int)) (n k : Nat) : List Value := (List.range (n * 2)).map fun i => if i < k * 2 then jcell js i else jzero i
theorem jcp_len (js : List (Int × Int)) (n k : Nat) : (jcp js n k).length = n * 2 := by simp [jcp]
theorem jcp_zero (js : List (Int × Int)) (n : Nat) : (madeCells (Value.agg #[.int .i8 0, .int .i16 0]).cells (n * 2)).toList = jcp js n 0 := by
  apply List.ext_getElem?
  intro i
  simp only [madeCells, jcp, jzero, Value.cells, Array.toList_map, Array.toList_range, List.getElem?_map]
  by_cases hi : i < n * 2
  · simp only [List.getElem?_range hi, Option.map_some]
    have h2 : i % 2 = 0 ∨ i % 2 = 1 := by omega
    rcases h2 with h2 | h2 <;> simp [h2]
  · simp [List.getElem?_eq_none (show (List.range (n * 2)).length ≤ i by simp; omega)]
theorem jcp_set (js : List (Int × Int)) (n k : Nat) (hk : k < n) : ((jcp js n k).set (k * 2) (.int .i8 (jk js k))).set (k * 2 + 1) (.int .i16 (jf js k)) = jcp js n (k + 1) := by
  apply List.ext_getElem?
  intro i
  simp only [jcp, List.getElem?_set, List.getElem?_map, List.length_map, List.length_range, List.length_set]
  by_cases h1 : k * 2 + 1 = i
  · subst h1
    have : (k * 2 + 1) % 2 = 1 := by omega
    have h3 : (k * 2 + 1) / 2 = k := by omega
    have h4 : k * 2 + 1 < n * 2 := by omega
    have h5 : k * 2 + 1 < (k + 1) * 2 := by omega
    simp [h4, h5, jcell, this, h3]
  · rw [if_neg h1]
    by_cases h2 : k * 2 = i
    · subst h2
      have : (k * 2) % 2 = 0 := by omega
      have h3 : (k * 2) / 2 = k := by omega
      have h4 : k * 2 < n * 2 := by omega
      have h5 : k * 2 < (k + 1) * 2 := by omega
      simp [h4, h5, jcell, this, h3]
    · rw [if_neg h2]
      by_cases hi : i < n * 2
      · simp only [List.getElem?_range hi, Option.map_some]
        by_cases h3 : i < k * 2
        · rw [if_pos h3, if_pos (by omega)]
        · rw [if_neg h3, if_neg (by omega)]
      · simp [List.getElem?_eq_none (show (List.range (n * 2)).length ≤ i by simp; omega)]
theorem jcp_get (js : List (Int × Int)) (n : Nat) (j : Nat) (hj : j < n) : (jcp js n n)[j * 2]? = some (.int .i8 (jk js j)) ∧ (jcp js n n)[j * 2 + 1]? = some (.int .i16 (jf js j)) := by
  have h0 : (j * 2) % 2 = 0 := by omega
  have h1 : (j * 2 + 1) % 2 = 1 := by omega
  have h2 : (j * 2) / 2 = j := by omega
  have h3 : (j * 2 + 1) / 2 = j := by omega
  have h4 : j * 2 < n * 2 := by omega
  have h5 : j * 2 + 1 < n * 2 := by omega
  exact ⟨by simp [jcp, jcell, h0, h2, h4], by simp [jcp, jcell, h1, h3, h5]⟩
theorem Row.of_ownsN {w : World} {base g n cap sz : Nat} {e : TypeId} {xs : List Value} (h : w.ownsRow base e sz (.slice (some ⟨g, 0, none⟩) n cap) n xs) (hn : n = cap) : Row w g e xs := by
  subst hn
  rcases h.2 with ⟨h', _⟩ | ⟨g', cap', cur, h', hb, hg, hnc, hcm, hcs, htake⟩
  · simp at h'
  · simp only [Value.slice.injEq, Option.some.injEq, Addr.mk.injEq, and_true, true_and] at h'
    obtain ⟨rfl, rfl⟩ := h'
    unfold Row
    rw [hg, ← htake, List.take_of_length_le (by simp [hcs])]
theorem jk_take (js : List (Int × Int)) (n j : Nat) (h : j < n) : jk (js.take n) j = jk js j := by simp [jk, h]
theorem jf_take (js : List (Int × Int)) (n j : Nat) (h : j < n) : jf (js.take n) j = jf js j := by simp [jf, h]

set_option maxHeartbeats 1000000 in
theorem toJoints_some (b off len cap : Nat) (js : List (Int × Int)) (hl : len ≤ 1048576) (hz : len = js.length) (w : World) (hbs : b < w.heap.size) (hc : ∀ j, j < len → w.cell? ⟨b, off + j * 2, none⟩ = some (.int .i8 (jk js j)) ∧ w.cell? ⟨b, off + j * 2 + 1, none⟩ = some (.int .i16 (jf js j))) :
    Calls Tryd.prog 31 #[.slice (some ⟨b, off, none⟩) len cap] w fun e w' => e = .returned (.slice (some ⟨w.heap.size, 0, none⟩) len len) ∧ Below w.heap.size w w' ∧ Jst w' w.heap.size js ∧ w.heap.size < w'.heap.size := by
  obtain ⟨i0, hi, hz0, hz1, hz2⟩ := info_parts Tryd.infoJoint
  have HC := hid hc
  have HZ := hid hz
  clear hc hz
  go_enter Tryd.func31, Tryd.ntmps31
  go_wp2_with (at_make; refine wpList_make_full _ rfl _ _ 29 rfl w.heap.size 72 i0 (.agg #[.int .i8 0, .int .i16 0]) 2 Tryd.underlying29 hi hz0 hz1 .i64 .i64 _ _ len rfl rfl rfl rfl (by rw [hz2]; omega) (by unfold maxLen; omega) (Nat.le_refl _) ?_; intro w1 hown hgrow)
  have hrow := Row.of_ownsN hown rfl
  rw [jcp_zero js len] at hrow
  have hB1 : Below w.heap.size w w1 := (Below.refl _ w).grown hgrow (Nat.le_refl _) (fun k e => by cases e)
  clear hown hgrow
  go_loopw [4] (fun i wr => ∃ k : Nat, k ≤ len ∧ i = .int .i64 k ∧ Row wr w.heap.size 72 (jcp js len k) ∧ Below w.heap.size w wr) (fun i _ => len - (intOf i).toNat)
  case atStart => exact ⟨0, Nat.zero_le _, rfl, hrow, hB1⟩
  case round =>
    clear hrow hB1
    obtain ⟨k, hk, rfl, hrow, hB⟩ := hrel
    by_cases hlt : k < len
    · have c0 : wr.cell? ⟨b, off + k * 2, none⟩ = some (.int .i8 (jk js k)) := (hB.cell (p := ⟨b, off + k * 2, none⟩) hbs).trans (HC.out k hlt).1
      have c1 : wr.cell? ⟨b, off + k * 2 + 1, none⟩ = some (.int .i16 (jf js k)) := (hB.cell (p := ⟨b, off + k * 2 + 1, none⟩) hbs).trans (HC.out k hlt).2
      have hlr := hrow.lt
      obtain ⟨x, hx⟩ : ∃ x, x = jk js k := ⟨_, rfl⟩
      obtain ⟨y, hy⟩ : ∃ y, y = jf js k := ⟨_, rfl⟩
      rw [← hx] at c0
      rw [← hy] at c1
      have HS := hid (jcp_set js len k hlt)
      rw [← hx, ← hy] at HS
      clear hx hy
      have HR := hid hrow
      clear hrow
      go_wp2_with fail
      refine (toJoint_any x y _).mono ?_
      rintro e w2 ⟨rfl, hB2⟩
      have hz2 := hB2.size
      have r1 := HR.out.below hB2 hlr
      have f0 := r1.frozen (k * 2)
      have f1 := r1.frozen (k * 2 + 1)
      obtain ⟨o0, h0⟩ : ∃ v, w2.cell? ⟨w.heap.size, k * 2, none⟩ = some v := ⟨_, (r1.cell (k * 2)).trans (List.getElem?_eq_getElem (by rw [jcp_len]; omega))⟩
      obtain ⟨o1, h1⟩ : ∃ v, w2.cell? ⟨w.heap.size, k * 2 + 1, none⟩ = some v := ⟨_, (r1.cell (k * 2 + 1)).trans (List.getElem?_eq_getElem (by rw [jcp_len]; omega))⟩
      have r2 := hid ((r1.set (k * 2) (.int .i8 x)).set (k * 2 + 1) (.int .i16 y))
      rw [HS.out] at r2
      have b2 := hid (((hB.trans (hB2.mono (by omega))).setCell (p := ⟨w.heap.size, k * 2, none⟩) (Nat.le_refl _) (.int .i8 x)).setCell (p := ⟨w.heap.size, k * 2 + 1, none⟩) (Nat.le_refl _) (.int .i16 y))
      clear r1
      go_wp2_with fail
      go_roundw
      case rel => exact ⟨k + 1, by omega, by go_num, r2.out, b2.out⟩
      case measure => simp [intOf]; omega
    · obtain rfl : k = len := by omega
      have hlr := hrow.lt
      have HR := hid hrow
      clear hrow
      go_wp2_with fail
      go_ret
      exact ⟨rfl, hB, ⟨hlr, fun j hj => ⟨(HR.out.cell _).trans (jcp_get js k j (by have := HZ.out; omega)).1, (HR.out.cell _).trans (jcp_get js k j (by have := HZ.out; omega)).2⟩, by have := HZ.out; omega⟩, hlr⟩
set_option maxHeartbeats 400000 in
theorem toJoints_none (a : Option Addr) (cap : Nat) (w : World) :
    Calls Tryd.prog 31 #[.slice a 0 cap] w fun e w' => e = .returned (.slice (some ⟨w.heap.size, 0, none⟩) 0 0) ∧ Below w.heap.size w w' ∧ Jst w' w.heap.size [] ∧ w.heap.size < w'.heap.size := by
  obtain ⟨i0, hi, hz0, hz1, hz2⟩ := info_parts Tryd.infoJoint
  go_enter Tryd.func31, Tryd.ntmps31
  go_wp2_with (at_make; refine wpList_make_full _ rfl _ _ 29 rfl w.heap.size 72 i0 (.agg #[.int .i8 0, .int .i16 0]) 2 Tryd.underlying29 hi hz0 hz1 .i64 .i64 _ _ 0 rfl rfl rfl rfl (by rw [hz2]; omega) (by unfold maxLen; omega) (Nat.le_refl _) ?_; intro w1 hown hgrow)
  have hrow := Row.of_ownsN hown rfl
  have hB : Below w.heap.size w w1 := (Below.refl _ w).grown hgrow (Nat.le_refl _) (fun k e => by cases e)
  clear hown hgrow
  refine wp_loop_rounds 1 ?_
  rw [rounds_succ]
  go_wp2
  go_ret
  exact ⟨rfl, hB, ⟨hrow.lt, fun j hj => by simp at hj, by simp⟩, hrow.lt⟩
/-- laws.toJointS at whatever argument. -/
theorem toJoints_any (a : Option Addr) (len cap : Nat) (js : List (Int × Int)) (w : World) (h : InJ w a len js) (hl : len ≤ 1048576) :
    Calls Tryd.prog 31 #[.slice a len cap] w fun e w' => e = .returned (.slice (some ⟨w.heap.size, 0, none⟩) len len) ∧ Below w.heap.size w w' ∧ Jst w' w.heap.size js ∧ w.heap.size < w'.heap.size := by
  by_cases h0 : len = 0
  · have hz := h.1
    subst h0
    obtain rfl : js = [] := List.length_eq_zero_iff.1 hz
    exact toJoints_none a cap w
  · rcases h.2.2 with h0' | ⟨b, off, rfl, hb, hc⟩
    · exact absurd h0' h0
    · exact toJoints_some b off len cap js hl h.1.symm w hb hc
end Go.Proofs.YtocaogkbnlicjaaDoor
