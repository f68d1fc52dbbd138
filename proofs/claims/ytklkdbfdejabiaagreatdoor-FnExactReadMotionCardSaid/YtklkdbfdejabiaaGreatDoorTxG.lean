/- Numbers of other types as texts. -/
import Derived.Test.YtklkdbfdejabiaaGreatDoorTxA
import Derived.WalkSmall
namespace Go.Proofs.YtklkdbfdejabiaaGreatDoor
open Go.RowKit
set_option linter.unusedVariables false
set_option linter.unusedSimpArgs false
set_option maxHeartbeats 400000 in
theorem decimal64_any (n : Int) (hn : 0 ≤ n ∧ n ≤ 1000000000000000) (wd : Nat) (hw : wd ≤ 100) (hl : (Lib.itoa n).length ≤ 40) (w : World) (hF : Calls Tryz.prog 68 #[.int .i64 n, .int .i64 10] w fun e w' => e = .returned (.string ⟨(Lib.itoa n).toArray⟩) ∧ Below w.heap.size w w') :
    Calls Tryz.prog 50 #[.int .i64 n, .int .i64 wd] w fun e w' => e = .returned (.string ⟨(padZ wd (Lib.itoa n)).toArray⟩) ∧ Below w.heap.size w w' := by
  have HF := hid hF
  have HR := hid (fun c (h : c ≤ 100) w => Tryz.strings_Repeat ⟨#[48]⟩ c w (by omega) (by simp [ByteArray.size]; omega))
  have hp : padZ wd (Lib.itoa n) = Lib.repeatL [48] (wd - (Lib.itoa n).length) ++ Lib.itoa n := by rw [repeat_zero]; rfl
  rw [hp]
  have h0 := hn.1
  have h9 := hn.2
  obtain ⟨s, hs⟩ : ∃ s, Lib.itoa n = s := ⟨_, rfl⟩
  rw [hs] at hl HF ⊢
  obtain ⟨L, hL⟩ : ∃ L, s.length = L := ⟨_, rfl⟩
  obtain ⟨c, hc⟩ : ∃ c, wd - L = c := ⟨_, rfl⟩
  rw [hL] at hl ⊢
  rw [hc]
  have HRc := hid (HR.out c (by omega))
  have hLe : (⟨s.toArray⟩ : ByteArray).size = L := by rw [← hL]; simp [ByteArray.size]
  have l0 : (0 : Int) ≤ (L : Int) := by omega
  have l9 : (L : Int) ≤ 40 := by omega
  have d0 : (0 : Int) ≤ (wd : Int) := by omega
  have d9 : (wd : Int) ≤ 100 := by omega
  have hmx : max (0 : Int) ((wd : Int) - (L : Int)) = (c : Int) := by omega
  obtain ⟨z, hz⟩ : ∃ z, Lib.repeatL [48] c = z := ⟨_, rfl⟩
  have hzl : z.length = c := by rw [← hz, repeat_zero]; simp
  have HRd : ∀ w, Calls Tryz.prog 69 #[.string ⟨#[48]⟩, .int .i64 c] w fun e w' => e = .returned (.string ⟨z.toArray⟩) ∧ Below w.heap.size w w' := fun w => by rw [← hz]; exact HRc.out w
  have HRc := hid HRd
  rw [hz]
  have HAP := hid (app_mk z s)
  have hsz : ¬ (9223372036854775807 < z.length + s.length) := by omega
  clear hF hn hs hc hp HR HRd hz hzl
  go_enter Tryz.func50, Tryz.ntmps50
  go_wp2_with fail
  refine HF.out.mono ?_
  rintro e w1 ⟨rfl, hB1⟩
  have B1 := hid hB1
  clear hB1
  go_wp2_with fail
  refine (HRc.out w1).mono ?_
  rintro e w2 ⟨rfl, hB2⟩
  have B2 := hid (B1.out.trans (hB2.mono B1.out.size))
  clear hB2
  go_wp2_with fail
  go_ret
  exact ⟨(show _ = Ending.returned (.string ((⟨z.toArray⟩ : ByteArray) ++ ⟨s.toArray⟩)) from rfl).trans (by rw [HAP.out]), B2.out⟩
end Go.Proofs.YtklkdbfdejabiaaGreatDoor
