/- Eight numbers compared, and what a box of eight numbers holds. -/
import Derived.Test.YtdnkcllnapfldaaLawsD
import Derived.Deep.DeepCutAuto
import Derived.Deep.RegionHeld3
namespace Go.Proofs.Ytdnkcllnapfldaa
open Go.RowKit
def Oi (w : World) (g : Nat) (d0 d1 d2 d3 d4 d5 d6 d7 : Int) : Prop :=
  w.cell? ⟨g, 0, none⟩ = some (.int .i64 d0) ∧ w.cell? ⟨g, 1, none⟩ = some (.int .i64 d1) ∧ w.cell? ⟨g, 2, none⟩ = some (.int .i64 d2) ∧ w.cell? ⟨g, 3, none⟩ = some (.int .i64 d3) ∧ w.cell? ⟨g, 4, none⟩ = some (.int .i64 d4) ∧ w.cell? ⟨g, 5, none⟩ = some (.int .i64 d5) ∧ w.cell? ⟨g, 6, none⟩ = some (.int .i64 d6) ∧ w.cell? ⟨g, 7, none⟩ = some (.int .i64 d7)
theorem Oi.below {w w' : World} {g n : Nat} {d0 d1 d2 d3 d4 d5 d6 d7 : Int} (h : Oi w g d0 d1 d2 d3 d4 d5 d6 d7) (hb : Below n w w') (hn : g < n) : Oi w' g d0 d1 d2 d3 d4 d5 d6 d7 :=
  ⟨(hb.cell (p := ⟨g, 0, none⟩) hn).trans h.1, (hb.cell (p := ⟨g, 1, none⟩) hn).trans h.2.1, (hb.cell (p := ⟨g, 2, none⟩) hn).trans h.2.2.1, (hb.cell (p := ⟨g, 3, none⟩) hn).trans h.2.2.2.1, (hb.cell (p := ⟨g, 4, none⟩) hn).trans h.2.2.2.2.1, (hb.cell (p := ⟨g, 5, none⟩) hn).trans h.2.2.2.2.2.1, (hb.cell (p := ⟨g, 6, none⟩) hn).trans h.2.2.2.2.2.2.1, (hb.cell (p := ⟨g, 7, none⟩) hn).trans h.2.2.2.2.2.2.2⟩
theorem Row.oi {w : World} {g : Nat} {e : TypeId} {d0 d1 d2 d3 d4 d5 d6 d7 : Int} (h : Row w g e [.int .i64 d0, .int .i64 d1, .int .i64 d2, .int .i64 d3, .int .i64 d4, .int .i64 d5, .int .i64 d6, .int .i64 d7]) : Oi w g d0 d1 d2 d3 d4 d5 d6 d7 :=
  ⟨h.cell 0, h.cell 1, h.cell 2, h.cell 3, h.cell 4, h.cell 5, h.cell 6, h.cell 7⟩
theorem Oi.new (w : World) (e : TypeId) (d0 d1 d2 d3 d4 d5 d6 d7 : Int) : Oi (w.alloc (.cells #[.int .i64 d0, .int .i64 d1, .int .i64 d2, .int .i64 d3, .int .i64 d4, .int .i64 d5, .int .i64 d6, .int .i64 d7] e)) w.heap.size d0 d1 d2 d3 d4 d5 d6 d7 :=
  (Row.new w e [.int .i64 d0, .int .i64 d1, .int .i64 d2, .int .i64 d3, .int .i64 d4, .int .i64 d5, .int .i64 d6, .int .i64 d7]).oi
set_option maxHeartbeats 2000000 in
set_option maxRecDepth 100000 in
theorem eqI8_same (d0 d1 d2 d3 d4 d5 d6 d7 : Int) (w : World) :
    Calls Try.prog 8 #[.agg #[.int .i64 d0, .int .i64 d1, .int .i64 d2, .int .i64 d3, .int .i64 d4, .int .i64 d5, .int .i64 d6, .int .i64 d7], .agg #[.int .i64 d0, .int .i64 d1, .int .i64 d2, .int .i64 d3, .int .i64 d4, .int .i64 d5, .int .i64 d6, .int .i64 d7]] w fun e w' => e = .returned (.bool true) ∧ Below w.heap.size w w' := by
  go_enter Try.func8, Try.ntmps8
  go_wp2
  refine wp_loop_rounds 9 ?_
  iterate 8 (rw [rounds_succ]; go_wp2; go_quiet (fail); go_wp2)
  rw [rounds_succ]
  go_wp2
  go_ret
  exact ⟨rfl, below_drewN (((Below.refl _ _).alloc (Nat.le_refl _) _).alloc (by simp) _) _⟩
end Go.Proofs.Ytdnkcllnapfldaa
