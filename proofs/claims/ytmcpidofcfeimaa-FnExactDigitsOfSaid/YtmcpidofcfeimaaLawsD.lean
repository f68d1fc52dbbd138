/- The walks of laws over a stack and digits. -/
import Derived.Test.YtmcpidofcfeimaaDigits
import Derived.Deep.RegionHeld3
namespace Go.Proofs.Ytmcpidofcfeimaa
open Go.RowKit

/-- eight bytes lie from the head of a block on -/
def Oc (w : World) (g : Nat) (d0 d1 d2 d3 d4 d5 d6 d7 : Int) : Prop :=
  w.cell? ⟨g, 0, none⟩ = some (.int .u8 d0) ∧ w.cell? ⟨g, 1, none⟩ = some (.int .u8 d1) ∧ w.cell? ⟨g, 2, none⟩ = some (.int .u8 d2) ∧ w.cell? ⟨g, 3, none⟩ = some (.int .u8 d3) ∧ w.cell? ⟨g, 4, none⟩ = some (.int .u8 d4) ∧ w.cell? ⟨g, 5, none⟩ = some (.int .u8 d5) ∧ w.cell? ⟨g, 6, none⟩ = some (.int .u8 d6) ∧ w.cell? ⟨g, 7, none⟩ = some (.int .u8 d7)
theorem Oc.below {w w' : World} {g n : Nat} {d0 d1 d2 d3 d4 d5 d6 d7 : Int} (h : Oc w g d0 d1 d2 d3 d4 d5 d6 d7) (hb : Below n w w') (hn : g < n) : Oc w' g d0 d1 d2 d3 d4 d5 d6 d7 :=
  ⟨(hb.cell (p := ⟨g, 0, none⟩) hn).trans h.1, (hb.cell (p := ⟨g, 1, none⟩) hn).trans h.2.1, (hb.cell (p := ⟨g, 2, none⟩) hn).trans h.2.2.1, (hb.cell (p := ⟨g, 3, none⟩) hn).trans h.2.2.2.1,
   (hb.cell (p := ⟨g, 4, none⟩) hn).trans h.2.2.2.2.1, (hb.cell (p := ⟨g, 5, none⟩) hn).trans h.2.2.2.2.2.1, (hb.cell (p := ⟨g, 6, none⟩) hn).trans h.2.2.2.2.2.2.1, (hb.cell (p := ⟨g, 7, none⟩) hn).trans h.2.2.2.2.2.2.2⟩
theorem Oc.new (w : World) (t : TypeId) (d0 d1 d2 d3 d4 d5 d6 d7 : Int) : Oc (w.alloc (.cells #[.int .u8 d0, .int .u8 d1, .int .u8 d2, .int .u8 d3, .int .u8 d4, .int .u8 d5, .int .u8 d6, .int .u8 d7] t)) w.heap.size d0 d1 d2 d3 d4 d5 d6 d7 := by
  have h := (Row.new w t [.int .u8 d0, .int .u8 d1, .int .u8 d2, .int .u8 d3, .int .u8 d4, .int .u8 d5, .int .u8 d6, .int .u8 d7]).cell
  exact ⟨h 0, h 1, h 2, h 3, h 4, h 5, h 6, h 7⟩

set_option maxRecDepth 100000 in
set_option maxHeartbeats 4000000 in
theorem law_FnExactValidDigits (a : Option Addr) (len cap : Nat) (zs : List Int) (d0 d1 d2 d3 d4 d5 d6 d7 : Int) (w : World) (h : InB w a len zs) (ho : Oct d0 d1 d2 d3 d4 d5 d6 d7) :
    Calls Try.prog 6 #[.slice a len cap, .agg #[.int .u8 d0, .int .u8 d1, .int .u8 d2, .int .u8 d3, .int .u8 d4, .int .u8 d5, .int .u8 d6, .int .u8 d7]] w fun e w' => e = .returned (.bool true) ∧ Below w.heap.size w w' := by
  by_cases hl : 1048576 < len
  · go_enter Try.func6, Try.ntmps6
    go_wp2
    go_ret
    exact ⟨rfl, (Below.refl _ _).alloc (Nat.le_refl _) _⟩
  have hI := hid h
  have hL := hid h.1
  have hO := hid ho
  clear h ho
  have hb : (okV zs [d0, d1, d2, d3, d4, d5, d6, d7] != okV zs [d0, d1, d2, d3, d4, d5, d6, d7]) = false := by simp
  have cb : Below w.heap.size w (w.alloc (.cells #[.int .u8 d0, .int .u8 d1, .int .u8 d2, .int .u8 d3, .int .u8 d4, .int .u8 d5, .int .u8 d6, .int .u8 d7] 31)) := (Below.refl _ _).alloc (Nat.le_refl _) _
  have oc0 : Oc (w.alloc (.cells #[.int .u8 d0, .int .u8 d1, .int .u8 d2, .int .u8 d3, .int .u8 d4, .int .u8 d5, .int .u8 d6, .int .u8 d7] 31)).drew w.heap.size d0 d1 d2 d3 d4 d5 d6 d7 := Oc.new w 31 d0 d1 d2 d3 d4 d5 d6 d7
  go_enter Try.func6, Try.ntmps6
  go_wp2_with fail
  go_region_held3 (fun w' => w'.cell? ⟨w.heap.size, 0, none⟩ = some (.int .u8 d0) ∧ w'.cell? ⟨w.heap.size, 1, none⟩ = some (.int .u8 d1) ∧ w'.cell? ⟨w.heap.size, 2, none⟩ = some (.int .u8 d2) ∧ w'.cell? ⟨w.heap.size, 3, none⟩ = some (.int .u8 d3) ∧ w'.cell? ⟨w.heap.size, 4, none⟩ = some (.int .u8 d4) ∧ w'.cell? ⟨w.heap.size, 5, none⟩ = some (.int .u8 d5) ∧ w'.cell? ⟨w.heap.size, 6, none⟩ = some (.int .u8 d6) ∧ w'.cell? ⟨w.heap.size, 7, none⟩ = some (.int .u8 d7)) (first | exact oc3 | exact oc2 | exact oc1 | exact oc0)
    ((first
      | (go_at_call 18; have hX := toStack_any a len cap zs _ (hI.out.below cb.drew (Nat.le_refl _)) (by omega); refine hX.mono ?_; clear hX; rintro e w1 ⟨rfl, hB1, hS1, hz1⟩; simp only [World.size_drew, World.size_alloc] at hB1 hS1 hz1; have oc1 := oc0.below hB1 (by omega))
      | (go_at_call 24; have hX := toDigits_any d0 d1 d2 d3 d4 d5 d6 d7 w1; refine hX.mono ?_; clear hX; rintro e w2 ⟨rfl, hB2⟩; have oc2 := oc1.below hB2 (by omega))
      | (go_at_call 23; have hX := specValidDigits_any _ _ len zs _ _ _ _ _ _ _ _ w2 (hS1.below hB2 hz1) hL.out.symm hO.out; refine hX.mono ?_; clear hX; rintro e w3 ⟨rfl, hB3⟩; have oc3 := oc2.below hB3 (by have := hB2.size; omega))))
  go_wp2_with fail
  have hz2 := hB2.size
  have hz3 := hB3.size
  have hB03 : Below w.heap.size w w3 := (cb.drew).trans ((hB1.mono (by omega)).trans ((hB2.mono (by omega)).trans (hB3.mono (by omega))))
  have oc3 := oc2.below hB3 (by omega)
  have hI3 := hid (hI.out.below hB03 (Nat.le_refl _))
  have hX := toStack_any a len cap zs w3 hI3.out (by omega)
  refine hX.mono ?_
  clear hX hS1
  rintro e w4 ⟨rfl, hB4, hS4, hz4⟩
  obtain ⟨e0, e1, e2, e3, e4, e5, e6, e7⟩ := oc3.below hB4 (by omega)
  go_wp2_with fail
  have hX := toDigits_any d0 d1 d2 d3 d4 d5 d6 d7 w4
  refine hX.mono ?_
  clear hX
  rintro e w5 ⟨rfl, hB5⟩
  clear e0 e1 e2 e3 e4 e5 e6 e7
  go_wp2_with fail
  have hS5 := hid (hS4.below hB5 hz4)
  have hz5 := hB5.size
  have hX := validDigits_any _ _ len zs _ _ _ _ _ _ _ _ w5 hS5.out hL.out.symm hO.out
  refine hX.mono ?_
  clear hX
  rintro e w6 ⟨rfl, hB6⟩
  go_wp2_with fail
  have hz6 := hB6.size
  have hB36 : Below w3.heap.size w3 w6 := hB4.trans ((hB5.mono (by omega)).trans (hB6.mono (by omega)))
  have hI6 := hid (hI3.out.below hB36 (Nat.le_refl _))
  have hX := toStack_any a len cap zs w6 hI6.out (by omega)
  refine hX.mono ?_
  clear hX
  rintro e w7 ⟨rfl, hB7, hS7, hz7⟩
  go_wp2_with fail
  have hX := eqStack_same _ _ len len len zs w7 ((hS5.out.below hB6 (by omega)).below hB7 (by omega)) hS7 hL.out.symm
  refine hX.mono ?_
  clear hX
  rintro e w8 ⟨rfl, hB8⟩
  go_wp2_with fail
  go_ret
  exact ⟨rfl, hB03.trans ((hB36.mono (by have := hB03.size; omega)).trans ((hB7.mono (by have := hB03.size; omega)).trans (hB8.mono (by have := hB03.size; omega))))⟩
end Go.Proofs.Ytmcpidofcfeimaa
