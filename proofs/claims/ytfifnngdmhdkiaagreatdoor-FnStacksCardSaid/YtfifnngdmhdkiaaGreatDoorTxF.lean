/- DigitsText, StackText: the model's fronts, and the program's StackText. -/
import Derived.Test.YtfifnngdmhdkiaaGreatDoorTxE
import Derived.WalkSmall
namespace Go.Proofs.YtfifnngdmhdkiaaGreatDoor
open Go.RowKit Go.Shelf
set_option linter.unusedVariables false
set_option linter.unusedSimpArgs false
def txS (zs : List Int) : List UInt8 := if okL zs then txT zs (fun _ => 1) else []
theorem txS_no {zs : List Int} (h : okL zs = false) : txS zs = [] := by simp [txS, h]
theorem txS_yes {zs : List Int} (h : okL zs = true) : txS zs = txT zs (fun _ => 1) := by simp [txS, h]
theorem tab_below {W W' : World} {B : Nat} (h : Lib.TabIs Tryz.prog W "internal/strconv.uint64pow10" .u64 Lib.pow10Tab) (hb : Below B W W') (hB : 2 < B) : Lib.TabIs Tryz.prog W' "internal/strconv.uint64pow10" .u64 Lib.pow10Tab := var?_below hb (by kernel_rfl) hB h
theorem stw_any (k : Nat) (w : World) : Calls Tryz.prog 40 #[.int .i64 (k : Int)] w fun e w' => e = .returned (.int .i64 (((fun _ => 1 : Nat → Nat) k : Nat) : Int)) ∧ Below w.heap.size w w' := by
  go_enter Tryz.func40, Tryz.ntmps40
  go_wp2_with fail
  go_ret
  exact ⟨rfl, Below.refl _ _⟩
set_option maxRecDepth 100000 in
set_option maxHeartbeats 4000000 in
theorem implST_any (b n cap : Nat) (zs : List Int) (w : World) (h : Stk w b zs) (hn : n = zs.length) (ht : Lib.TabIs Tryz.prog w "internal/strconv.uint64pow10" .u64 Lib.pow10Tab) (hg : 2 < w.heap.size) :
    Calls Tryz.prog 12 #[.slice (some ⟨b, 0, none⟩) n cap] w fun e w' => e = .returned (.string ⟨(txS zs).toArray⟩) ∧ Below w.heap.size w w' := by
  have H := hid h; have N := hid hn
  have HVL := hid (validStack_any b n cap zs w h hn)
  cases hv : okL zs with
  | false =>
    rw [txS_no hv]
    rw [hv] at HVL
    clear hv h hn ht hg
    go_enter Tryz.func12, Tryz.ntmps12
    go_wp2_with (go_at_call 17; refine HVL.out.mono ?_; rintro e w1 ⟨rfl, rfl⟩)
    go_ret
    exact ⟨rfl, Below.refl _ _⟩
  | true =>
    obtain ⟨h1n, h8, hin, _, _⟩ := okL_out hv
    rw [← N.out] at h1n h8 hin
    have HI := hid hin
    have hdk : ∀ k, k < n → 0 ≤ ug zs k ∧ ug zs k ≤ 100 := fun k hk => by have a := HI.out k hk; exact ⟨by unfold ug; omega, by unfold ug; omega⟩
    have hil : ∀ k, k < n → (Lib.itoa (ug zs k)).length ≤ 4 := fun k hk => by
      have a := hdk k hk
      obtain ⟨m, hm⟩ : ∃ m : Nat, ug zs k = (m : Int) := ⟨(ug zs k).toNat, by omega⟩
      rw [hm, itoa_nat]
      exact dec_len 3 m (by omega)
    have hP : ∀ k, k < n → (txP zs (fun _ => 1) k).length ≤ 4 := fun k hk => by
      unfold txP
      rw [padZ_len]
      have a := hil k hk
      show max 1 _ ≤ 4
      omega
    have hTL := txT_len zs (fun _ => 1) 4 (by rw [← N.out]; exact hP)
    have hbz := h.2.2.1
    have HT := hid (textLFS_any b n cap zs N.out h1n (fun _ => 1) w H.out (fun k W _ _ => stw_any k W)
      (fun k W hk hB => decimal8_any _ (by have := hdk k hk; omega) 1 (by omega) (by have := hil k hk; omega) W (fmt_tab _ (by have := hdk k hk; omega) (by have := hdk k hk; omega) W (tab_below ht hB hg)))
      (by rw [← N.out] at hTL; omega))
    rw [txS_yes hv]
    rw [hv] at HVL
    obtain ⟨T, hT⟩ : ∃ T, txT zs (fun _ => 1) = T := ⟨_, rfl⟩
    rw [hT] at HT ⊢
    clear hv h hn ht hg hin hdk hil hP hTL hbz hT
    go_enter Tryz.func12, Tryz.ntmps12
    go_wp2_with (first | (go_at_call 17; refine HVL.out.mono ?_; rintro e w1 ⟨rfl, rfl⟩) | (go_at_call 39; refine HT.out.mono ?_; rintro e w2 ⟨rfl, hB2⟩))
    go_ret
    exact ⟨rfl, hB2⟩
end Go.Proofs.YtfifnngdmhdkiaaGreatDoor
