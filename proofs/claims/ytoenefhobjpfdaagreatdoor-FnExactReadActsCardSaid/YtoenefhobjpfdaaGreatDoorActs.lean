/- Lists of acts: two cells each. -/
import Derived.Test.YtoenefhobjpfdaaGreatDoorAct
import Derived.Deep.RegionHeld3
import Derived.OwnWalk
import Derived.Deep.QuietTactic
namespace Go.Proofs.YtoenefhobjpfdaaGreatDoor
open Go.RowKit
set_option linter.unusedVariables false
def ak (js : List (Int × Int)) (j : Nat) : Int := (js[j]?.getD (0, 0)).1
def an (js : List (Int × Int)) (j : Nat) : Int := (js[j]?.getD (0, 0)).2
def Ast (w : World) (b : Nat) (js : List (Int × Int)) : Prop :=
  b < w.heap.size ∧ (∀ j, j < js.length → w.cell? ⟨b, j * 2, none⟩ = some (.int .i8 (ak js j)) ∧ w.cell? ⟨b, j * 2 + 1, none⟩ = some (.int .i64 (an js j))) ∧ js.length ≤ 1048576
theorem Ast.below {w w' : World} {b n : Nat} {js : List (Int × Int)} (h : Ast w b js) (hb : Below n w w') (hn : b < n) : Ast w' b js :=
  ⟨Nat.lt_of_lt_of_le h.1 hb.size, fun j hj => ⟨(hb.cell (p := ⟨b, j * 2, none⟩) hn).trans (h.2.1 j hj).1, (hb.cell (p := ⟨b, j * 2 + 1, none⟩) hn).trans (h.2.1 j hj).2⟩, h.2.2⟩
theorem eqActs_same (b1 b2 n c1 c2 : Nat) (js : List (Int × Int)) (w : World) (h1 : Ast w b1 js) (h2 : Ast w b2 js) (hn : n = js.length) :
    Calls Tryz.prog 6 #[.slice (some ⟨b1, 0, none⟩) n c1, .slice (some ⟨b2, 0, none⟩) n c2] w fun e w' => e = .returned (.bool true) ∧ Below w.heap.size w w' := by
  have hl := h1.2.2
  have hC1 := hid h1.2.1
  have hC2 := hid h2.2.1
  have hb1 := h1.1
  have hb2 := h2.1
  have hN := hid hn
  rw [← hn] at hl
  clear h1 h2 hn
  have hne : ((n : Int) != (n : Int)) = false := by simp
  go_enter Tryz.func6, Tryz.ntmps6
  go_wp2
  go_loopw [5] (fun i wr => ∃ k : Nat, k ≤ n ∧ i = .int .i64 k ∧ Below w.heap.size w wr) (fun i _ => n - (intOf i).toNat)
  case atStart => exact ⟨0, Nat.zero_le _, rfl, Below.refl _ _⟩
  case round =>
    obtain ⟨k, hk, rfl, hB⟩ := hrel
    by_cases hlt : k < n
    · have x1 := (hB.cell (p := ⟨b1, k * 2, none⟩) hb1).trans (hC1.out k (by rw [← hN.out]; exact hlt)).1
      have x2 := (hB.cell (p := ⟨b1, k * 2 + 1, none⟩) hb1).trans (hC1.out k (by rw [← hN.out]; exact hlt)).2
      have y1 := (hB.cell (p := ⟨b2, k * 2, none⟩) hb2).trans (hC2.out k (by rw [← hN.out]; exact hlt)).1
      have y2 := (hB.cell (p := ⟨b2, k * 2 + 1, none⟩) hb2).trans (hC2.out k (by rw [← hN.out]; exact hlt)).2
      have hlt' : (k : Int) < (n : Int) := by omega
      have hk0 : (0 : Int) ≤ (k : Int) := by omega
      have hzr := hB.size
      obtain ⟨x, hx⟩ : ∃ x, x = ak js k := ⟨_, rfl⟩
      obtain ⟨y, hy⟩ : ∃ y, y = an js k := ⟨_, rfl⟩
      rw [← hx] at x1 y1
      rw [← hy] at x2 y2
      clear hx hy
      go_wp2_with fail
      go_region_held3 (fun w' => w'.cell? ⟨b1, k * 2, none⟩ = some (.int .i8 x) ∧ w'.cell? ⟨b1, k * 2 + 1, none⟩ = some (.int .i64 y) ∧ w'.cell? ⟨b2, k * 2, none⟩ = some (.int .i8 x) ∧ w'.cell? ⟨b2, k * 2 + 1, none⟩ = some (.int .i64 y)) (first | exact hq | exact ⟨x1, x2, y1, y2⟩) ((go_at_call 14; have hX := eqAct_same x y wr.drew; refine hX.mono ?_; clear hX; rintro e w1 ⟨rfl, hB1⟩; have hq := And.intro ((hB1.cell (p := ⟨b1, k * 2, none⟩) (Nat.lt_of_lt_of_le hb1 hzr)).trans x1) (And.intro ((hB1.cell (p := ⟨b1, k * 2 + 1, none⟩) (Nat.lt_of_lt_of_le hb1 hzr)).trans x2) (And.intro ((hB1.cell (p := ⟨b2, k * 2, none⟩) (Nat.lt_of_lt_of_le hb2 hzr)).trans y1) ((hB1.cell (p := ⟨b2, k * 2 + 1, none⟩) (Nat.lt_of_lt_of_le hb2 hzr)).trans y2)))))
      go_wp2_with fail
      all_goals go_roundw
      case rel => exact ⟨k + 1, by omega, by go_num, hB.trans ((Below.refl wr.heap.size wr).drew.mono hzr |>.trans (hB1.mono hzr))⟩
      case measure => simp [intOf]; omega
    · obtain rfl : k = n := by omega
      go_wp2_with fail
      go_ret
      exact ⟨rfl, hB⟩

end Go.Proofs.YtoenefhobjpfdaaGreatDoor
