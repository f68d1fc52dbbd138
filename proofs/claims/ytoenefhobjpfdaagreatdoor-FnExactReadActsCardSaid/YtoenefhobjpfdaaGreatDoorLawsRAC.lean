/- The law over ReadActs. -/
import Derived.Test.YtoenefhobjpfdaaGreatDoorRaI
import Derived.Test.YtoenefhobjpfdaaGreatDoorRaS
namespace Go.Proofs.YtoenefhobjpfdaaGreatDoor
open Go.RowKit
set_option linter.unusedVariables false
set_option linter.unusedSimpArgs false
set_option maxRecDepth 100000 in
set_option maxHeartbeats 4000000 in
theorem law_FnExactReadActs (t : ByteArray) (w : World) (hT : t.size ≤ maxLen) (tS : TypeId) (pS : Value) (tR : TypeId) (pR : Value) (m : Int) (hLW : LW w tS pS tR pR m) (a0 : Addr) (hE0 : w.cell? ⟨0, 0, none⟩ = some (.iface 109 (.pointer (some a0)))) (a1 : Addr) (hE1 : w.cell? ⟨1, 0, none⟩ = some (.iface 109 (.pointer (some a1)))) :
    Calls Tryz.prog 3 #[.string t] w fun e w' => e = .returned (.bool true) ∧ Below w.heap.size w w' := by
  have hL : LX w tS pS tR pR m a0 a1 := ⟨hLW, ⟨hE0, cell_ltA hE0⟩, hE1, cell_ltA hE1⟩
  clear hLW hE0 hE1
  by_cases hbig : 1048576 < t.size
  · have hb : (1048576 : Int) < (t.size : Int) := by omega
    clear hL hT
    go_enter Tryz.func3, Tryz.ntmps3
    go_wp2_with fail
    go_ret
    exact ⟨rfl, Below.refl _ _⟩
  have hle : t.size ≤ 1048576 := by omega
  have hb : ¬ (1048576 : Int) < (t.size : Int) := by omega
  have HS := hid (fun W => specReadActs_any t hle W)
  have HM := hid (fun W (h : LX W tS pS tR pR m a0 a1) => implReadActs_any t hle W h)
  have HLW := hid hL
  obtain ⟨⟨E, c⟩, hR⟩ : ∃ r, rdR acWd acOk t.data.toList = r := ⟨_, rfl⟩
  rw [hR] at HS HM
  have fc : (c != c) = false := by simp
  have fE : ((1 + 2 * (E.length : Int)) != (1 + 2 * (E.length : Int))) = false := by simp
  have f3 : (0 : Int) ≤ 1 + 2 * (E.length : Int) := by omega
  have q : Below w.heap.size w w := Below.refl _ _
  obtain ⟨n, hn⟩ : ∃ n, t.size = n := ⟨_, rfl⟩
  rw [hn] at hb
  clear hR hL hT hbig hle
  go_enter Tryz.func3, Tryz.ntmps3
  go_wp2_with fail
  with_reducible refine (HS.out w).mono ?_
  rintro e V3 ⟨v3, rfl, O3, hB⟩
  replace q := q.trans (hB.mono q.size)
  clear hB
  have HQ3 := hid q.size
  have c3b : Below V3.heap.size V3 V3 := Below.refl _ _
  go_wp2_with fail
  with_reducible refine (HM.out V3 (HLW.out.below q (Nat.le_refl _))).mono ?_
  rintro e V6 ⟨v6, rfl, G6, hB⟩
  replace q := q.trans (hB.mono q.size)
  replace c3b := c3b.trans (hB.mono c3b.size)
  clear hB
  have d : Below V6.heap.size V6 V6 := Below.refl _ _
  go_wp2_with fail
  with_reducible refine (eqA_own _ _ v6 v3 E _ (G6.keep d) (O3.keep c3b)).mono ?_
  rintro e w11 ⟨rfl, hB⟩
  replace q := q.trans (hB.mono q.size)
  replace c3b := c3b.trans (hB.mono c3b.size)
  replace d := d.trans (hB.mono d.size)
  clear hB
  go_wp2_with fail
  with_reducible refine (markA_own V3.heap.size v6 E _ (G6.keep d)).mono ?_
  rintro e w16 ⟨rfl, M16, hB, hS16⟩
  replace q := q.trans (hB.mono HQ3.out)
  replace c3b := c3b.trans (hB.mono (Nat.le_refl _))
  clear hB d G6 hS16
  have e : Below w16.heap.size w16 w16 := Below.refl _ _
  go_wp2_with fail
  with_reducible refine (heldA_own V3.heap.size v6 E.length _ (M16.keep e)).mono ?_
  rintro e1 w17 ⟨rfl, dd, hdd⟩
  have hB : Below w16.heap.size w16 w17 := by rw [hdd]; exact below_drewN (Below.refl _ _) _
  replace q := q.trans (hB.mono q.size)
  replace c3b := c3b.trans (hB.mono c3b.size)
  replace e := e.trans (hB.mono e.size)
  clear hdd hB
  go_wp2_with fail
  with_reducible refine (HM.out w17 (HLW.out.below q (Nat.le_refl _))).mono ?_
  rintro e1 w20 ⟨v9, rfl, H9, hB⟩
  replace q := q.trans (hB.mono q.size)
  replace c3b := c3b.trans (hB.mono c3b.size)
  replace e := e.trans (hB.mono e.size)
  clear hB
  have s9 : Below w20.heap.size w20 w20 := Below.refl _ _
  go_wp2_with fail
  with_reducible refine (eqA_own _ _ v9 v3 E _ (H9.keep s9) (O3.keep c3b)).mono ?_
  rintro e1 w21 ⟨rfl, hB⟩
  replace q := q.trans (hB.mono q.size)
  replace c3b := c3b.trans (hB.mono c3b.size)
  replace e := e.trans (hB.mono e.size)
  clear hB
  go_wp2_with fail
  with_reducible refine (heldA_own V3.heap.size v6 E.length _ (M16.keep e)).mono ?_
  rintro e1 w22 ⟨rfl, dd, hdd⟩
  have hB : Below w21.heap.size w21 w22 := by rw [hdd]; exact below_drewN (Below.refl _ _) _
  replace q := q.trans (hB.mono q.size)
  clear hdd hB
  go_wp2_with fail
  go_ret
  exact ⟨rfl, q⟩
end Go.Proofs.YtoenefhobjpfdaaGreatDoor
