/- Numbers as texts. -/
import Derived.Test.YtoenefhobjpfdaaGreatDoorValid
import Derived.Test.YtoenefhobjpfdaaGreatDoorHeld
import Derived.Test.YtoenefhobjpfdaaGreatDoorShf
import Derived.Lib.ItoaNum
import Derived.Lib.AppendIntMem
import Derived.OrdersHeld
import Derived.Laws.BytesString
import Derived.Laws.Concat
namespace Go.Proofs.YtoenefhobjpfdaaGreatDoor
open Go.RowKit
set_option linter.unusedVariables false
set_option linter.unusedSimpArgs false
theorem app_mk (a b : List UInt8) : (⟨a.toArray⟩ : ByteArray) ++ ⟨b.toArray⟩ = ⟨(a ++ b).toArray⟩ := by
  apply ByteArray.ext
  simp
/-- a text with zeros ahead up to a width -/
def padZ (wd : Nat) (l : List UInt8) : List UInt8 := List.replicate (wd - l.length) 48 ++ l
theorem repeat_zero : ∀ c, Lib.repeatL [48] c = List.replicate c 48
  | 0 => rfl
  | c + 1 => by rw [Lib.repeatL, repeat_zero c, List.replicate_succ]; rfl
theorem itoa_nat (n : Nat) : Lib.itoa (n : Int) = Lib.decDigits n := by
  unfold Lib.itoa
  rw [if_neg (by omega)]
  simp
theorem fmt_small (n : Nat) (hn : n < 100) (w : World) : Calls Tryz.prog 56 #[.int .i64 (n : Int), .int .i64 10] w fun e w' => e = .returned (.string ⟨(Lib.itoa n).toArray⟩) ∧ Below w.heap.size w w' := by
  rw [itoa_nat]
  exact (Tryz.strconv_FormatInt_10_small n hn w).mono fun e w' ⟨h1, h2⟩ => ⟨h1, by rw [h2]; exact Below.refl _ _⟩
theorem fmt_tab (n : Int) (h0 : -9223372036854775808 ≤ n) (h1 : n ≤ 9223372036854775807) (w : World) (ht : Lib.TabIs Tryz.prog w "internal/strconv.uint64pow10" .u64 Lib.pow10Tab) : Calls Tryz.prog 56 #[.int .i64 n, .int .i64 10] w fun e w' => e = .returned (.string ⟨(Lib.itoa n).toArray⟩) ∧ Below w.heap.size w w' :=
  (Tryz.strconv_FormatInt_10 n h0 h1 w ht).mono fun e w' ⟨h, k, os, hw⟩ => ⟨h, by rw [hw]; exact Lib.below_grow _ _ (Nat.le_refl _) k os⟩
theorem conv_one (x : Int) (W : World) (b : Nat) (hc : W.cell? ⟨b, 0, none⟩ = some (.int .u8 x)) :
    (convert 53 9 (.slice (some ⟨b, 0, none⟩) 1 1)).run Tryz.prog W = .ok (.string ⟨#[UInt8.ofNat x.toNat]⟩) W := by
  rw [run_convert_bytes_string W 53 9 5 (some ⟨b, 0, none⟩) 1 1 Tryz.underlying53 Tryz.underlying5 Tryz.underlying9]
  rw [run_bytesToString W ⟨b, 0, none⟩ 1 1 [x] (run_loadCells_list W ⟨b, 0, none⟩ [.int .u8 x] (by intro j v hj; match j, hj with | 0, hj => simp at hj; subst hj; simpa [Addr.add] using hc))]
  rfl
theorem ofNat48 (n : Nat) : UInt8.ofNat ((48 : Int) + (n : Int)).toNat = UInt8.ofNat (48 + n) := by
  congr 1
/-- how long a number's text is -/
theorem dec_len : ∀ k n, n < 10 ^ k → (Lib.decDigits n).length ≤ k + 1
  | 0, n, h => by
    have : n = 0 := by simpa using h
    subst this
    simp [Lib.decDigits]
  | k + 1, n, h => by
    rw [Lib.decDigits]
    split
    · simp
    · have := dec_len k (n / 10) (by rw [Nat.pow_succ] at h; omega)
      simp; omega
end Go.Proofs.YtoenefhobjpfdaaGreatDoor
