/- Counts between two readings, their rounds, and by how much a stack has been set back; the program's. -/
import Derived.Test.YtofpgkbcodopiaaFlowC
import Derived.OwnWalk
import Derived.Deep.QuietTactic
namespace Go.Proofs.Ytofpgkbcodopiaa
open Go.RowKit
theorem tupI_ne {c : Int} (a u b v : Int) (h : c ≠ 0) : tupI c a u b v = .tuple #[.agg #[.int .i64 0, .int .i64 0, .int .i64 0, .int .i64 0], .int .i64 c] := by simp [tupI, ivR, h]
def cntR (zs : List Int) (a u b v lo hi : Int) : (Int × Int) × Int :=
  if codeP zs a u b v lo hi = 0 then (if posI (szL zs) (v - u) (lo * (b - a)) (hi * (b - a)) then ((lstI (szL zs) (v - u) (lo * (b - a)), gstI (szL zs) (v - u) (hi * (b - a))), 0) else ((0, 0), 6)) else ((0, 0), codeP zs a u b v lo hi)
theorem cntR_no {zs : List Int} {a u b v lo hi : Int} (h : codeP zs a u b v lo hi ≠ 0) : cntR zs a u b v lo hi = ((0, 0), codeP zs a u b v lo hi) := by simp [cntR, h]
theorem cntR_none {zs : List Int} {a u b v lo hi : Int} (h : codeP zs a u b v lo hi = 0) (k : posI (szL zs) (v - u) (lo * (b - a)) (hi * (b - a)) = false) : cntR zs a u b v lo hi = ((0, 0), 6) := by simp [cntR, h, k]
theorem cntR_yes {zs : List Int} {a u b v lo hi : Int} (h : codeP zs a u b v lo hi = 0) (k : posI (szL zs) (v - u) (lo * (b - a)) (hi * (b - a)) = true) : cntR zs a u b v lo hi = ((lstI (szL zs) (v - u) (lo * (b - a)), gstI (szL zs) (v - u) (hi * (b - a))), 0) := by simp [cntR, h, k]
def tup3 (r : (Int × Int) × Int) : Value := .tuple #[.int .i64 r.1.1, .int .i64 r.1.2, .int .i64 r.2]
theorem iv3_boxes (w : World) (T1 T2 : TypeId) (a u b v x y : Value) : ∀ W, W = (((w.alloc (.cells #[a, u] T1)).alloc (.cells #[b, v] T1)).alloc (.cells #[x, y] T2)) →
    Row W w.heap.size T1 [a, u] ∧ Row W (w.heap.size + 1) T1 [b, v] ∧ Row W (w.heap.size + 1 + 1) T2 [x, y] ∧ Below w.heap.size w W ∧ W.heap.size = w.heap.size + 1 + 1 + 1 := by
  rintro W rfl
  have h1 := Row.new (w.alloc (.cells #[a, u] T1)) T1 [b, v]
  have h2 := Row.new ((w.alloc (.cells #[a, u] T1)).alloc (.cells #[b, v] T1)) T2 [x, y]
  simp only [World.size_alloc] at h1 h2
  exact ⟨((Row.new w T1 [a, u]).alloc _).alloc _, h1.alloc _, h2, ((box2_bel w T1 a u).alloc (by simp) _).alloc (by simp; omega) _, by simp⟩
def rndR (zs : List Int) (a u b v lo hi : Int) : (Int × Int) × Int :=
  if (cntR zs a u b v lo hi).2 = 0 then (((u + (cntR zs a u b v lo hi).1.1) / szL zs, (u + (cntR zs a u b v lo hi).1.2) / szL zs), 0) else ((0, 0), (cntR zs a u b v lo hi).2)
theorem rndR_no {zs : List Int} {a u b v lo hi : Int} (h : (cntR zs a u b v lo hi).2 ≠ 0) : rndR zs a u b v lo hi = ((0, 0), (cntR zs a u b v lo hi).2) := by simp [rndR, h]
theorem rndR_yes {zs : List Int} {a u b v lo hi : Int} (h : (cntR zs a u b v lo hi).2 = 0) : rndR zs a u b v lo hi = (((u + (cntR zs a u b v lo hi).1.1) / szL zs, (u + (cntR zs a u b v lo hi).1.2) / szL zs), 0) := by simp [rndR, h]
/-- what is known of counts that are possible -/
theorem cntR_out {zs : List Int} {a u b v lo hi : Int} (h : (cntR zs a u b v lo hi).2 = 0) : codeP zs a u b v lo hi = 0 ∧ 0 ≤ (cntR zs a u b v lo hi).1.1 ∧ (cntR zs a u b v lo hi).1.1 ≤ 2000000000000 ∧ 0 ≤ (cntR zs a u b v lo hi).1.2 ∧ (cntR zs a u b v lo hi).1.2 ≤ 2000000000000 := by
  by_cases h0 : codeP zs a u b v lo hi = 0
  · obtain ⟨o1, o2, o3, o4, o5⟩ := codeP_out h0
    obtain ⟨a1, a2, a3, a4⟩ := okRd_out o2
    obtain ⟨a5, a6, a7, a8⟩ := okRd_out o3
    obtain ⟨f1, f2, f3⟩ := okF_out o4
    obtain ⟨_, _, _, z1, z2⟩ := okL_out o1
    cases hp : posI (szL zs) (v - u) (lo * (b - a)) (hi * (b - a)) with
    | false => rw [cntR_none h0 hp] at h; simp at h
    | true =>
      rw [cntR_yes h0 hp]
      have hp' := hp
      unfold posI at hp'
      have hp2 := of_decide_eq_true hp'
      have g := gst_le (szL zs) (v - u) (hi * (b - a)) (by omega)
      obtain ⟨m1, m2⟩ := mul_small lo (b - a) (by omega) (by omega)
      obtain ⟨m3, m4⟩ := mul_small hi (b - a) (by omega) (by omega)
      have e := Int.emod_nonneg (v - u - lo * (b - a)) (show szL zs ≠ 0 by omega)
      have hl : 0 ≤ lstI (szL zs) (v - u) (lo * (b - a)) := by unfold lstI; omega
      exact ⟨h0, hl, by show lstI (szL zs) (v - u) (lo * (b - a)) ≤ _; omega, by show 0 ≤ gstI (szL zs) (v - u) (hi * (b - a)); omega, by show gstI (szL zs) (v - u) (hi * (b - a)) ≤ _; omega⟩
  · rw [cntR_no h0] at h
    exact absurd h h0
theorem quo_small (m z : Int) (h : 0 ≤ m ∧ m ≤ 3000000000000) (hz : 1 ≤ z) : m.tdiv z = m / z ∧ 0 ≤ m / z ∧ m / z ≤ 3000000000000 := by
  refine ⟨Int.tdiv_eq_ediv_of_nonneg h.1, Int.ediv_nonneg h.1 (by omega), ?_⟩
  have := Int.ediv_le_self z h.1
  omega
end Go.Proofs.Ytofpgkbcodopiaa
