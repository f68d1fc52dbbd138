/- DigitsText, StackText: the model's fronts, and the program's StackText. -/
import Derived.Test.YtocaogkbnlicjaaDoorTxE
import Derived.WalkSmall
namespace Go.Proofs.YtocaogkbnlicjaaDoor
open Go.RowKit Go.Shelf
set_option linter.unusedVariables false
set_option linter.unusedSimpArgs false
def txS (zs : List Int) : List UInt8 := if okL zs then txT zs (fun _ => 1) else []
theorem txS_no {zs : List Int} (h : okL zs = false) : txS zs = [] := by simp [txS, h]
theorem txS_yes {zs : List Int} (h : okL zs = true) : txS zs = txT zs (fun _ => 1) := by simp [txS, h]
theorem tab_below {W W' : World} {B : Nat} (h : Lib.TabIs Tryd.prog W "internal/strconv.uint64pow10" .u64 Lib.pow10Tab) (hb : Below B W W') (hB : 4 < B) : Lib.TabIs Tryd.prog W' "internal/strconv.uint64pow10" .u64 Lib.pow10Tab := var?_below hb (by kernel_rfl) hB h
set_option maxRecDepth 100000 in
set_option maxHeartbeats 4000000 in
theorem specDT_any (b n cap : Nat) (zs : List Int) (d0 d1 d2 d3 d4 d5 d6 d7 : Int) (w : World) (h : Stk w b zs) (hn : n = zs.length) (ho : Oct d0 d1 d2 d3 d4 d5 d6 d7) :
    Calls Tryd.prog 73 #[.slice (some ⟨b, 0, none⟩) n cap, .agg #[.int .u8 d0, .int .u8 d1, .int .u8 d2, .int .u8 d3, .int .u8 d4, .int .u8 d5, .int .u8 d6, .int .u8 d7]] w fun e w' => e = .returned (.string ⟨(txD zs [d0, d1, d2, d3, d4, d5, d6, d7]).toArray⟩) ∧ Below w.heap.size w w' := by
  have N := hid hn; have HO := hid ho
  have hbl := h.1
  have bV : Below w.heap.size w (w.alloc (.cells #[.int .u8 d0, .int .u8 d1, .int .u8 d2, .int .u8 d3, .int .u8 d4, .int .u8 d5, .int .u8 d6, .int .u8 d7] 94)) := (Below.refl _ w).alloc (Nat.le_refl _) _
  have rV := Row.new w 94 [.int .u8 d0, .int .u8 d1, .int .u8 d2, .int .u8 d3, .int .u8 d4, .int .u8 d5, .int .u8 d6, .int .u8 d7]
  have HVL := hid (specValidDigits_any b n cap zs d0 d1 d2 d3 d4 d5 d6 d7 _ (h.below bV hbl) hn ho)
  have HV := hid bV; have RV := hid rV; have SV := hid (h.below bV hbl)
  cases hv : okV zs [d0, d1, d2, d3, d4, d5, d6, d7] with
  | false =>
    rw [txD_no hv]
    rw [hv] at HVL
    clear hv h hn ho bV rV
    go_enter Tryd.func73, Tryd.ntmps73
    go_wp2_with (go_at_call 104; refine HVL.out.mono ?_; rintro e w1 ⟨rfl, hB1⟩)
    go_ret
    exact ⟨rfl, HV.out.trans (hB1.mono (by simp))⟩
  | true =>
    have HT := hid (fun w1 (hB : Below (w.alloc (.cells #[.int .u8 d0, .int .u8 d1, .int .u8 d2, .int .u8 d3, .int .u8 d4, .int .u8 d5, .int .u8 d6, .int .u8 d7] 94)).heap.size (w.alloc (.cells #[.int .u8 d0, .int .u8 d1, .int .u8 d2, .int .u8 d3, .int .u8 d4, .int .u8 d5, .int .u8 d6, .int .u8 d7] 94)) w1) => l01Text_any b n cap zs d0 d1 d2 d3 d4 d5 d6 d7 N.out hv w1 (SV.out.below hB SV.out.1) HO.out)
    rw [txD_yes hv, ← N.out]
    rw [hv] at HVL
    obtain ⟨T, hT⟩ : ∃ T, txT (List.take n [d0, d1, d2, d3, d4, d5, d6, d7]) (wdD zs) = T := ⟨_, rfl⟩
    rw [hT] at HT ⊢
    clear hv h hn ho bV rV hT
    go_enter Tryd.func73, Tryd.ntmps73
    go_wp2_with (first | (go_at_call 104; refine HVL.out.mono ?_; rintro e w1 ⟨rfl, hB1⟩; have q := RV.out.below hB1 RV.out.lt; have c0 := q.cell 0; have c1 := q.cell 1; have c2 := q.cell 2; have c3 := q.cell 3; have c4 := q.cell 4; have c5 := q.cell 5; have c6 := q.cell 6; have c7 := q.cell 7; simp only [List.getElem?_cons_zero, List.getElem?_cons_succ] at c0 c1 c2 c3 c4 c5 c6 c7; have HTW := hid (HT.out w1 hB1); have B1 := hid (show Below w.heap.size w w1 from HV.out.trans (hB1.mono (by simp))); clear hB1 q) | (go_at_call 105; refine HTW.out.mono ?_; rintro e w2 ⟨rfl, hB2⟩))
    go_ret
    exact ⟨rfl, B1.out.trans (hB2.mono B1.out.size)⟩
set_option maxRecDepth 100000 in
set_option maxHeartbeats 4000000 in
theorem specST_any (b n cap : Nat) (zs : List Int) (w : World) (h : Stk w b zs) (hn : n = zs.length) :
    Calls Tryd.prog 62 #[.slice (some ⟨b, 0, none⟩) n cap] w fun e w' => e = .returned (.string ⟨(txS zs).toArray⟩) ∧ Below w.heap.size w w' := by
  have H := hid h; have N := hid hn
  have HVL := hid (l01Ok_any b n cap zs w h hn)
  clear h hn
  cases hv : okL zs with
  | false =>
    rw [txS_no hv]
    rw [hv] at HVL
    clear hv
    go_enter Tryd.func62, Tryd.ntmps62
    go_wp2_with (go_at_call 71; refine HVL.out.mono ?_; rintro e w1 ⟨rfl, rfl⟩)
    go_ret
    exact ⟨rfl, Below.refl _ _⟩
  | true =>
    have HT := hid (l01Bases_any b n cap zs N.out hv w H.out)
    rw [txS_yes hv]
    rw [hv] at HVL
    clear hv
    go_enter Tryd.func62, Tryd.ntmps62
    go_wp2_with (first | (go_at_call 71; refine HVL.out.mono ?_; rintro e w1 ⟨rfl, rfl⟩) | (go_at_call 100; refine HT.out.mono ?_; rintro e w2 ⟨rfl, hB2⟩))
    go_ret
    exact ⟨rfl, hB2⟩
theorem stw_any (k : Nat) (w : World) : Calls Tryd.prog 68 #[.int .i64 (k : Int)] w fun e w' => e = .returned (.int .i64 (((fun _ => 1 : Nat → Nat) k : Nat) : Int)) ∧ Below w.heap.size w w' := by
  go_enter Tryd.func68, Tryd.ntmps68
  go_wp2_with fail
  go_ret
  exact ⟨rfl, Below.refl _ _⟩
set_option maxRecDepth 100000 in
set_option maxHeartbeats 4000000 in
theorem implST_any (b n cap : Nat) (zs : List Int) (w : World) (h : Stk w b zs) (hn : n = zs.length) (ht : Lib.TabIs Tryd.prog w "internal/strconv.uint64pow10" .u64 Lib.pow10Tab) (hg : 4 < w.heap.size) :
    Calls Tryd.prog 33 #[.slice (some ⟨b, 0, none⟩) n cap] w fun e w' => e = .returned (.string ⟨(txS zs).toArray⟩) ∧ Below w.heap.size w w' := by
  have H := hid h; have N := hid hn
  have HVL := hid (validStack_any b n cap zs w h hn)
  cases hv : okL zs with
  | false =>
    rw [txS_no hv]
    rw [hv] at HVL
    clear hv h hn ht hg
    go_enter Tryd.func33, Tryd.ntmps33
    go_wp2_with (go_at_call 65; refine HVL.out.mono ?_; rintro e w1 ⟨rfl, rfl⟩)
    go_ret
    exact ⟨rfl, Below.refl _ _⟩
  | true =>
    obtain ⟨h1n, h8, hin, _, _⟩ := okL_out hv
    rw [← N.out] at h1n h8 hin
    have HI := hid hin
    have hdk : ∀ k, k < n → 0 ≤ ug zs k ∧ ug zs k ≤ 100 := fun k hk => by have a := HI.out k hk; exact ⟨by unfold ug; omega, by unfold ug; omega⟩
    have hil : ∀ k, k < n → (Lib.itoa (ug zs k)).length ≤ 4 := fun k hk => by
      have a := hdk k hk
      obtain ⟨m, hm⟩ : ∃ m : Nat, ug zs k = (m : Int) := ⟨(ug zs k).toNat, by omega⟩
      rw [hm, itoa_nat]
      exact dec_len 3 m (by omega)
    have hP : ∀ k, k < n → (txP zs (fun _ => 1) k).length ≤ 4 := fun k hk => by
      unfold txP
      rw [padZ_len]
      have a := hil k hk
      show max 1 _ ≤ 4
      omega
    have hTL := txT_len zs (fun _ => 1) 4 (by rw [← N.out]; exact hP)
    have hbz := h.2.2.1
    have HT := hid (textLFS_any b n cap zs N.out h1n (fun _ => 1) w H.out (fun k W _ _ => stw_any k W)
      (fun k W hk hB => decimal8_any _ (by have := hdk k hk; omega) 1 (by omega) (by have := hil k hk; omega) W (fmt_tab _ (by have := hdk k hk; omega) (by have := hdk k hk; omega) W (tab_below ht hB hg)))
      (by rw [← N.out] at hTL; omega))
    rw [txS_yes hv]
    rw [hv] at HVL
    obtain ⟨T, hT⟩ : ∃ T, txT zs (fun _ => 1) = T := ⟨_, rfl⟩
    rw [hT] at HT ⊢
    clear hv h hn ht hg hin hdk hil hP hTL hbz hT
    go_enter Tryd.func33, Tryd.ntmps33
    go_wp2_with (first | (go_at_call 65; refine HVL.out.mono ?_; rintro e w1 ⟨rfl, rfl⟩) | (go_at_call 67; refine HT.out.mono ?_; rintro e w2 ⟨rfl, hB2⟩))
    go_ret
    exact ⟨rfl, hB2⟩
end Go.Proofs.YtocaogkbnlicjaaDoor
