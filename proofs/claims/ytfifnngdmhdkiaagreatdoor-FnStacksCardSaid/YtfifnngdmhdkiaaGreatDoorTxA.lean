/- Numbers as texts. -/
import Derived.Test.YtfifnngdmhdkiaaGreatDoorMgP
import Derived.Test.YtfifnngdmhdkiaaGreatDoorHeld
import Derived.Test.YtfifnngdmhdkiaaGreatDoorShf
import Derived.Lib.ItoaNum
import Derived.Lib.AppendIntMem
import Derived.OrdersHeld
import Derived.Laws.BytesString
import Derived.Laws.Concat
namespace Go.Proofs.YtfifnngdmhdkiaaGreatDoor
open Go.RowKit
set_option linter.unusedVariables false
set_option linter.unusedSimpArgs false
theorem app_mk (a b : List UInt8) : (⟨a.toArray⟩ : ByteArray) ++ ⟨b.toArray⟩ = ⟨(a ++ b).toArray⟩ := by
  apply ByteArray.ext
  simp
/-- a text with zeros ahead up to a width -/
def padZ (wd : Nat) (l : List UInt8) : List UInt8 := List.replicate (wd - l.length) 48 ++ l
theorem repeat_zero : ∀ c, Lib.repeatL [48] c = List.replicate c 48
  | 0 => rfl
  | c + 1 => by rw [Lib.repeatL, repeat_zero c, List.replicate_succ]; rfl
theorem itoa_nat (n : Nat) : Lib.itoa (n : Int) = Lib.decDigits n := by
  unfold Lib.itoa
  rw [if_neg (by omega)]
  simp
theorem fmt_small (n : Nat) (hn : n < 100) (w : World) : Calls Tryz.prog 60 #[.int .i64 (n : Int), .int .i64 10] w fun e w' => e = .returned (.string ⟨(Lib.itoa n).toArray⟩) ∧ Below w.heap.size w w' := by
  rw [itoa_nat]
  exact (Tryz.strconv_FormatInt_10_small n hn w).mono fun e w' ⟨h1, h2⟩ => ⟨h1, by rw [h2]; exact Below.refl _ _⟩
theorem fmt_tab (n : Int) (h0 : -9223372036854775808 ≤ n) (h1 : n ≤ 9223372036854775807) (w : World) (ht : Lib.TabIs Tryz.prog w "internal/strconv.uint64pow10" .u64 Lib.pow10Tab) : Calls Tryz.prog 60 #[.int .i64 n, .int .i64 10] w fun e w' => e = .returned (.string ⟨(Lib.itoa n).toArray⟩) ∧ Below w.heap.size w w' :=
  (Tryz.strconv_FormatInt_10 n h0 h1 w ht).mono fun e w' ⟨h, k, os, hw⟩ => ⟨h, by rw [hw]; exact Lib.below_grow _ _ (Nat.le_refl _) k os⟩
set_option maxHeartbeats 400000 in
theorem decimal8_any (n : Int) (hn : 0 ≤ n ∧ n ≤ 255) (wd : Nat) (hw : wd ≤ 100) (hl : (Lib.itoa n).length ≤ 40) (w : World) (hF : Calls Tryz.prog 60 #[.int .i64 n, .int .i64 10] w fun e w' => e = .returned (.string ⟨(Lib.itoa n).toArray⟩) ∧ Below w.heap.size w w') :
    Calls Tryz.prog 42 #[.int .u8 n, .int .i64 wd] w fun e w' => e = .returned (.string ⟨(padZ wd (Lib.itoa n)).toArray⟩) ∧ Below w.heap.size w w' := by
  have HF := hid hF
  have HR := hid (fun c (h : c ≤ 100) w => Tryz.strings_Repeat ⟨#[48]⟩ c w (by omega) (by simp [ByteArray.size]; omega))
  have hp : padZ wd (Lib.itoa n) = Lib.repeatL [48] (wd - (Lib.itoa n).length) ++ Lib.itoa n := by rw [repeat_zero]; rfl
  rw [hp]
  have h0 := hn.1
  have h9 := hn.2
  obtain ⟨s, hs⟩ : ∃ s, Lib.itoa n = s := ⟨_, rfl⟩
  rw [hs] at hl HF ⊢
  obtain ⟨L, hL⟩ : ∃ L, s.length = L := ⟨_, rfl⟩
  obtain ⟨c, hc⟩ : ∃ c, wd - L = c := ⟨_, rfl⟩
  rw [hL] at hl ⊢
  rw [hc]
  have HRc := hid (HR.out c (by omega))
  have hLe : (⟨s.toArray⟩ : ByteArray).size = L := by rw [← hL]; simp [ByteArray.size]
  have l0 : (0 : Int) ≤ (L : Int) := by omega
  have l9 : (L : Int) ≤ 40 := by omega
  have d0 : (0 : Int) ≤ (wd : Int) := by omega
  have d9 : (wd : Int) ≤ 100 := by omega
  have hmx : max (0 : Int) ((wd : Int) - (L : Int)) = (c : Int) := by omega
  obtain ⟨z, hz⟩ : ∃ z, Lib.repeatL [48] c = z := ⟨_, rfl⟩
  have hzl : z.length = c := by rw [← hz, repeat_zero]; simp
  have HRd : ∀ w, Calls Tryz.prog 61 #[.string ⟨#[48]⟩, .int .i64 c] w fun e w' => e = .returned (.string ⟨z.toArray⟩) ∧ Below w.heap.size w w' := fun w => by rw [← hz]; exact HRc.out w
  have HRc := hid HRd
  rw [hz]
  have HAP := hid (app_mk z s)
  have hsz : ¬ (9223372036854775807 < z.length + s.length) := by omega
  clear hF hn hs hc hp HR HRd hz hzl
  go_enter Tryz.func42, Tryz.ntmps42
  go_wp2_with fail
  refine HF.out.mono ?_
  rintro e w1 ⟨rfl, hB1⟩
  have B1 := hid hB1
  clear hB1
  go_wp2_with fail
  refine (HRc.out w1).mono ?_
  rintro e w2 ⟨rfl, hB2⟩
  have B2 := hid (B1.out.trans (hB2.mono B1.out.size))
  clear hB2
  go_wp2_with fail
  go_ret
  exact ⟨(show _ = Ending.returned (.string ((⟨z.toArray⟩ : ByteArray) ++ ⟨s.toArray⟩)) from rfl).trans (by rw [HAP.out]), B2.out⟩
theorem conv_one (x : Int) (W : World) (b : Nat) (hc : W.cell? ⟨b, 0, none⟩ = some (.int .u8 x)) :
    (convert 22 9 (.slice (some ⟨b, 0, none⟩) 1 1)).run Tryz.prog W = .ok (.string ⟨#[UInt8.ofNat x.toNat]⟩) W := by
  rw [run_convert_bytes_string W 22 9 5 (some ⟨b, 0, none⟩) 1 1 Tryz.underlying22 Tryz.underlying5 Tryz.underlying9]
  rw [run_bytesToString W ⟨b, 0, none⟩ 1 1 [x] (run_loadCells_list W ⟨b, 0, none⟩ [.int .u8 x] (by intro j v hj; match j, hj with | 0, hj => simp at hj; subst hj; simpa [Addr.add] using hc))]
  rfl
theorem ofNat48 (n : Nat) : UInt8.ofNat ((48 : Int) + (n : Int)).toNat = UInt8.ofNat (48 + n) := by
  congr 1
/-- how long a number's text is -/
theorem dec_len : ∀ k n, n < 10 ^ k → (Lib.decDigits n).length ≤ k + 1
  | 0, n, h => by
    have : n = 0 := by simpa using h
    subst this
    simp [Lib.decDigits]
  | k + 1, n, h => by
    rw [Lib.decDigits]
    split
    · simp
    · have := dec_len k (n / 10) (by rw [Nat.pow_succ] at h; omega)
      simp; omega
end Go.Proofs.YtfifnngdmhdkiaaGreatDoor
