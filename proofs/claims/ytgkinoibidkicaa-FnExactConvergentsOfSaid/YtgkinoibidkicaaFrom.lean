/- The ratios of first terms: the program's and the model's. -/
import Derived.Test.YtgkinoibidkicaaFromM
import Derived.Test.YtgkinoibidkicaaTerms
import Derived.Test.YtgkinoibidkicaaInts
import Derived.Test.YtgkinoibidkicaaMade
import Derived.Maps.AppendAt
import Derived.BigRegion
namespace Go.Proofs.Ytgkinoibidkicaa
open Go.RowKit
theorem Try.infoRatio : (Try.prog.info? 27).map (fun i => (i.zero, i.size, i.bytes)) = some (some (.agg #[.int .i64 0, .int .i64 0]), 2, 16) := by kernel_rfl
/-- what is gathered ends with the last ratio -/
def Ends (zs : List Int) (k : Nat) (xs : List Value) : Prop := k = 0 ∨ ∃ ys, xs = ys ++ [.int .i64 (fP zs k).2, .int .i64 (fQ zs k).2] ∧ ys.length = (k - 1) * 2
/-- what firstRatios returns: a list whose last ratio is known, or none -/
def FrR (w : World) (zs : List Int) (n : Nat) (okv failv : Value) (e : Ending) (w' : World) : Prop :=
  Below w.heap.size w w' ∧ ((inF zs = true ∧ ∃ g cap, e = .returned (.tuple #[.slice (some ⟨g, 0, none⟩) n cap, okv]) ∧ w'.cell? ⟨g, (n - 1) * 2, none⟩ = some (.int .i64 (fP zs n).2) ∧ w'.cell? ⟨g, (n - 1) * 2 + 1, none⟩ = some (.int .i64 (fQ zs n).2) ∧ g < w'.heap.size) ∨ (inF zs = false ∧ ∃ v, e = .returned (.tuple #[v, failv])))
theorem ends_cells {w : World} {base n : Nat} {T : TypeId} {v : Value} {xs : List Value} {zs : List Int} (h : w.ownsRow base T 2 v n xs) (hn : 1 ≤ n) (he : Ends zs n xs) :
    ∃ g cap, v = .slice (some ⟨g, 0, none⟩) n cap ∧ w.cell? ⟨g, (n - 1) * 2, none⟩ = some (.int .i64 (fP zs n).2) ∧ w.cell? ⟨g, (n - 1) * 2 + 1, none⟩ = some (.int .i64 (fQ zs n).2) ∧ g < w.heap.size := by
  rcases h.2 with ⟨_, h0⟩ | ⟨g, cap, cur, hv, hg1, hg2, hg3, hg4, hg5, hg6⟩
  · omega
  · rcases he with h0 | ⟨ys, rfl, hy⟩
    · omega
    · have HG := World.ownsRow.cells h (g := g) (by rw [hv]; rfl)
      have ad : ∀ j, (⟨g, 0, none⟩ : Addr).add j = ⟨g, j, none⟩ := fun j => by
        by_cases h : j = 0
        · subst h; simp [Addr.add]
        · simp [Addr.add, h]
      refine ⟨g, cap, hv, ?_, ?_, lt_of_block hg2⟩
      · have := HG ((n - 1) * 2) (.int .i64 (fP zs n).2) (by rw [List.getElem?_append_right (by omega), hy]; simp)
        rwa [ad] at this
      · have := HG ((n - 1) * 2 + 1) (.int .i64 (fQ zs n).2) (by rw [List.getElem?_append_right (by omega), hy]; simp)
        rwa [ad] at this
end Go.Proofs.Ytgkinoibidkicaa
