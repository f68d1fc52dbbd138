/- Numbers as texts. -/
import Derived.Test.YtcbhlljgcndhdaaGreatDoorValid
import Derived.Test.YtcbhlljgcndhdaaGreatDoorHeld
import Derived.Test.YtcbhlljgcndhdaaGreatDoorShf
import Derived.Lib.ItoaNum
import Derived.Lib.AppendIntMem
import Derived.OrdersHeld
import Derived.Laws.BytesString
import Derived.Laws.Concat
namespace Go.Proofs.YtcbhlljgcndhdaaGreatDoor
open Go.RowKit
set_option linter.unusedVariables false
set_option linter.unusedSimpArgs false
theorem app_mk (a b : List UInt8) : (⟨a.toArray⟩ : ByteArray) ++ ⟨b.toArray⟩ = ⟨(a ++ b).toArray⟩ := by
  apply ByteArray.ext
  simp
/-- a text with zeros ahead up to a width -/
def padZ (wd : Nat) (l : List UInt8) : List UInt8 := List.replicate (wd - l.length) 48 ++ l
theorem repeat_zero : ∀ c, Lib.repeatL [48] c = List.replicate c 48
  | 0 => rfl
  | c + 1 => by rw [Lib.repeatL, repeat_zero c, List.replicate_succ]; rfl
theorem itoa_nat (n : Nat) : Lib.itoa (n : Int) = Lib.decDigits n := by
  unfold Lib.itoa
  rw [if_neg (by omega)]
  simp
theorem fmt_small (n : Nat) (hn : n < 100) (w : World) : Calls Tryz.prog 50 #[.int .i64 (n : Int), .int .i64 10] w fun e w' => e = .returned (.string ⟨(Lib.itoa n).toArray⟩) ∧ Below w.heap.size w w' := by
  rw [itoa_nat]
  exact (Tryz.strconv_FormatInt_10_small n hn w).mono fun e w' ⟨h1, h2⟩ => ⟨h1, by rw [h2]; exact Below.refl _ _⟩
theorem fmt_tab (n : Int) (h0 : -9223372036854775808 ≤ n) (h1 : n ≤ 9223372036854775807) (w : World) (ht : Lib.TabIs Tryz.prog w "internal/strconv.uint64pow10" .u64 Lib.pow10Tab) : Calls Tryz.prog 50 #[.int .i64 n, .int .i64 10] w fun e w' => e = .returned (.string ⟨(Lib.itoa n).toArray⟩) ∧ Below w.heap.size w w' :=
  (Tryz.strconv_FormatInt_10 n h0 h1 w ht).mono fun e w' ⟨h, k, os, hw⟩ => ⟨h, by rw [hw]; exact Lib.below_grow _ _ (Nat.le_refl _) k os⟩
set_option maxHeartbeats 400000 in
theorem decimal8_any (n : Int) (hn : 0 ≤ n ∧ n ≤ 255) (wd : Nat) (hw : wd ≤ 100) (hl : (Lib.itoa n).length ≤ 40) (w : World) (hF : Calls Tryz.prog 50 #[.int .i64 n, .int .i64 10] w fun e w' => e = .returned (.string ⟨(Lib.itoa n).toArray⟩) ∧ Below w.heap.size w w') :
    Calls Tryz.prog 48 #[.int .u8 n, .int .i64 wd] w fun e w' => e = .returned (.string ⟨(padZ wd (Lib.itoa n)).toArray⟩) ∧ Below w.heap.size w w' := by
  have HF := hid hF
  have HR := hid (fun c (h : c ≤ 100) w => Tryz.strings_Repeat ⟨#[48]⟩ c w (by omega) (by simp [ByteArray.size]; omega))
  have hp : padZ wd (Lib.itoa n) = Lib.repeatL [48] (wd - (Lib.itoa n).length) ++ Lib.itoa n := by rw [repeat_zero]; rfl
  rw [hp]
  have h0 := hn.1
  have h9 := hn.2
  obtain ⟨s, hs⟩ : ∃ s, Lib.itoa n = s := ⟨_, rfl⟩
  rw [hs] at hl HF ⊢
  obtain ⟨L, hL⟩ : ∃ L, s.length = L := ⟨_, rfl⟩
  obtain ⟨c, hc⟩ : ∃ c, wd - L = c := ⟨_, rfl⟩
  rw [hL] at hl ⊢
  rw [hc]
  have HRc := hid (HR.out c (by omega))
  have hLe : (⟨s.toArray⟩ : ByteArray).size = L := by rw [← hL]; simp [ByteArray.size]
  have l0 : (0 : Int) ≤ (L : Int) := by omega
  have l9 : (L : Int) ≤ 40 := by omega
  have d0 : (0 : Int) ≤ (wd : Int) := by omega
  have d9 : (wd : Int) ≤ 100 := by omega
  have hmx : max (0 : Int) ((wd : Int) - (L : Int)) = (c : Int) := by omega
  obtain ⟨z, hz⟩ : ∃ z, Lib.repeatL [48] c = z := ⟨_, rfl⟩
  have hzl : z.length = c := by rw [← hz, repeat_zero]; simp
  have HRd : ∀ w, Calls Tryz.prog 51 #[.string ⟨#[48]⟩, .int .i64 c] w fun e w' => e = .returned (.string ⟨z.toArray⟩) ∧ Below w.heap.size w w' := fun w => by rw [← hz]; exact HRc.out w
  have HRc := hid HRd
  rw [hz]
  have HAP := hid (app_mk z s)
  have hsz : ¬ (9223372036854775807 < z.length + s.length) := by omega
  clear hF hn hs hc hp HR HRd hz hzl
  go_enter Tryz.func48, Tryz.ntmps48
  go_wp2_with fail
  refine HF.out.mono ?_
  rintro e w1 ⟨rfl, hB1⟩
  have B1 := hid hB1
  clear hB1
  go_wp2_with fail
  refine (HRc.out w1).mono ?_
  rintro e w2 ⟨rfl, hB2⟩
  have B2 := hid (B1.out.trans (hB2.mono B1.out.size))
  clear hB2
  go_wp2_with fail
  go_ret
  exact ⟨(show _ = Ending.returned (.string ((⟨z.toArray⟩ : ByteArray) ++ ⟨s.toArray⟩)) from rfl).trans (by rw [HAP.out]), B2.out⟩
theorem conv_one (x : Int) (W : World) (b : Nat) (hc : W.cell? ⟨b, 0, none⟩ = some (.int .u8 x)) :
    (convert 22 9 (.slice (some ⟨b, 0, none⟩) 1 1)).run Tryz.prog W = .ok (.string ⟨#[UInt8.ofNat x.toNat]⟩) W := by
  rw [run_convert_bytes_string W 22 9 5 (some ⟨b, 0, none⟩) 1 1 Tryz.underlying22 Tryz.underlying5 Tryz.underlying9]
  rw [run_bytesToString W ⟨b, 0, none⟩ 1 1 [x] (run_loadCells_list W ⟨b, 0, none⟩ [.int .u8 x] (by intro j v hj; match j, hj with | 0, hj => simp at hj; subst hj; simpa [Addr.add] using hc))]
  rfl
theorem ofNat48 (n : Nat) : UInt8.ofNat ((48 : Int) + (n : Int)).toNat = UInt8.ofNat (48 + n) := by
  congr 1
set_option maxRecDepth 20000 in
theorem dec_small (n : Nat) (hn : n < 10) (w : World) : Calls Tryz.prog 36 #[.int .i64 n] w fun e w' => e = .returned (.string ⟨(Lib.decDigits n).toArray⟩) ∧ Below w.heap.size w w' := by
  have h1 : (n : Int) < 10 := by omega
  have h0 : (0 : Int) ≤ n := by omega
  have hD : Lib.decDigits n = [UInt8.ofNat (48 + n)] := by rw [Lib.decDigits, dif_pos hn]
  rw [hD]
  obtain ⟨r, hr⟩ : ∃ r, (n : Int) % 10 = r := ⟨_, rfl⟩
  have r0 : 0 ≤ r := by omega
  have r9 : r ≤ 9 := by omega
  have hrn : r = (n : Int) := by omega
  have u1 : IntKind.u8.wrap (48 + r) = 48 + r := by unfold IntKind.wrap; simp [IntKind.bits, IntKind.signed]; omega
  have hcv := conv_one (48 + r) (w.alloc (.cells #[.int .u8 (48 + r)] 5)) w.heap.size ((Row.new w 5 [.int .u8 (48 + r)]).cell 0)
  have hE := hid (show UInt8.ofNat (48 + r).toNat = UInt8.ofNat (48 + n) from by rw [hrn]; exact ofNat48 n)
  have bA := hid (show Below w.heap.size w (w.alloc (.cells #[.int .u8 (48 + r)] 5)) from (Below.refl _ w).alloc (Nat.le_refl _) _)
  clear hrn hD
  go_enter Tryz.func36, Tryz.ntmps36
  go_wp2_with fail
  go_ret
  exact ⟨(show _ = Ending.returned (.string ⟨#[UInt8.ofNat (48 + r).toNat]⟩) from rfl).trans (by rw [hE.out]), bA.out⟩
/-- how long a number's text is -/
theorem dec_len : ∀ k n, n < 10 ^ k → (Lib.decDigits n).length ≤ k + 1
  | 0, n, h => by
    have : n = 0 := by simpa using h
    subst this
    simp [Lib.decDigits]
  | k + 1, n, h => by
    rw [Lib.decDigits]
    split
    · simp
    · have := dec_len k (n / 10) (by rw [Nat.pow_succ] at h; omega)
      simp; omega
set_option maxRecDepth 20000 in
set_option maxHeartbeats 1000000 in
theorem dec_any : ∀ (k : Nat), k ≤ 18 → ∀ n : Nat, n < 10 ^ k → ∀ w, Calls Tryz.prog 36 #[.int .i64 n] w fun e w' => e = .returned (.string ⟨(Lib.decDigits n).toArray⟩) ∧ Below w.heap.size w w'
  | 0, _, n, h, w => dec_small n (by have : n < 1 := by simpa using h
                                     omega) w
  | k + 1, hk, n, h, w => by
    by_cases hn : n < 10
    · exact dec_small n hn w
    have hlt : n / 10 < 10 ^ k := by rw [Nat.pow_succ] at h; omega
    have HI := hid (dec_any k (by omega) (n / 10) hlt)
    have hlen := dec_len k (n / 10) hlt
    have hbig : n < 1000000000000000000 := Nat.lt_of_lt_of_le h (Nat.le_trans (Nat.pow_le_pow_right (by omega) hk) (by decide))
    have hD : Lib.decDigits n = Lib.decDigits (n / 10) ++ [UInt8.ofNat (48 + n % 10)] := by
      rw [Lib.decDigits, dif_neg hn]
    rw [hD]
    have h1 : ¬ (n : Int) < 10 := by omega
    have h0 : (0 : Int) ≤ n := by omega
    have h9 : (n : Int) ≤ 1000000000000000000 := by omega
    obtain ⟨s, hs⟩ : ∃ s, Lib.decDigits (n / 10) = s := ⟨_, rfl⟩
    rw [hs] at HI hlen ⊢
    have hsz : ¬ (9223372036854775807 < s.length + 1) := by omega
    obtain ⟨r, hr⟩ : ∃ r, (n : Int) % 10 = r := ⟨_, rfl⟩
    obtain ⟨q, hq⟩ : ∃ q, (n : Int) / 10 = q := ⟨_, rfl⟩
    have r0 : 0 ≤ r := by omega
    have r9 : r ≤ 9 := by omega
    have tq : (n : Int).tdiv 10 = q := by rw [← hq]; exact Int.tdiv_eq_ediv_of_nonneg h0
    have tr : (n : Int).tmod 10 = r := by rw [← hr]; exact Int.tmod_eq_emod_of_nonneg h0
    have q0 : 0 ≤ q := by omega
    have q9 : q ≤ 1000000000000000000 := by omega
    have hqn : ((n / 10 : Nat) : Int) = q := by omega
    rw [hqn] at HI
    have w2 : IntKind.i64.wrap q = q := IntWalk.i64_in _ (by omega)
    have w3 : IntKind.i64.wrap (48 + r) = 48 + r := IntWalk.i64_in _ (by omega)
    have u1 : IntKind.u8.wrap (48 + r) = 48 + r := by unfold IntKind.wrap; simp [IntKind.bits, IntKind.signed]; omega
    have hE0 : UInt8.ofNat (48 + r).toNat = UInt8.ofNat (48 + n % 10) := by
      have : r = ((n % 10 : Nat) : Int) := by omega
      rw [this]; exact ofNat48 _
    obtain ⟨c8, hc8⟩ : ∃ c8, UInt8.ofNat (48 + n % 10) = c8 := ⟨_, rfl⟩
    rw [hc8] at hE0 ⊢
    have hE := hid hE0
    clear hE0 hc8
    have bW : Below w.heap.size w w := Below.refl _ _
    clear hD hs hbig hlt h hk hr hq hqn hlen
    go_enter Tryz.func36, Tryz.ntmps36
    go_wp2_with fail
    refine wp_region_held (S := fun _ : World => True) (by kernel_rfl) ?_
    change wpAnyH _ _ _ _ _ _ _ _ (World.drew _)
    obtain ⟨W0, hW0⟩ : ∃ X, X = World.drew (w) := ⟨_, rfl⟩
    have hD0 : Below (w).heap.size (w) W0 := by rw [hW0]; exact (Below.refl _ _).drew
    have bW0 := bW.trans (hD0.mono bW.size)
    have bR : Below W0.heap.size W0 W0 := Below.refl _ _
    rw [← hW0]
    clear hW0 hD0
    have hS0 : (fun _ : World => True) W0 := trivial
    refine wpAnyH_takeD (some 11) (i := 0) (v := ?_) rfl rfl (by kernel_rfl) (by kernel_rfl) (by kernel_rfl) (fun _ _ _ h => h) (.inl ⟨by kernel_rfl, ?_⟩) hS0 ?_
    rotate_left
    · intro w' hw'; go_simp; try with_reducible rfl
    try simp only [Act.put, List.setIfInBounds_toArray, List.set_cons_zero, List.set_cons_succ]
    refine wpAnyH_takeD (some 12) (i := 1) (v := ?_) rfl rfl (by kernel_rfl) (by kernel_rfl) (by kernel_rfl) (fun _ _ _ h => h) (.inl ⟨by kernel_rfl, ?_⟩) hS0 ?_
    rotate_left
    · intro w' hw'; go_simp; try with_reducible rfl
    try simp only [Act.put, List.setIfInBounds_toArray, List.set_cons_zero, List.set_cons_succ]
    refine wpAnyH_takeD (some 14) (i := 3) (v := ?_) rfl rfl (by kernel_rfl) (by kernel_rfl) (by kernel_rfl) (fun _ _ _ h => h) (.inl ⟨by kernel_rfl, ?_⟩) hS0 ?_
    rotate_left
    · intro w' hw'; go_simp; try with_reducible rfl
    try simp only [Act.put, List.setIfInBounds_toArray, List.set_cons_zero, List.set_cons_succ]
    refine wpAnyH_takeD (some 15) (i := 4) (v := ?_) rfl rfl (by kernel_rfl) (by kernel_rfl) (by kernel_rfl) (fun _ _ _ h => h) (.inl ⟨by kernel_rfl, ?_⟩) hS0 ?_
    rotate_left
    · intro w' hw'; go_simp; try with_reducible rfl
    try simp only [Act.put, List.setIfInBounds_toArray, List.set_cons_zero, List.set_cons_succ]
    refine wpAnyH_takeD (some 16) (i := 5) (v := ?_) rfl rfl (by kernel_rfl) (by kernel_rfl) (by kernel_rfl) (fun _ _ _ h => h) (.inl ⟨by kernel_rfl, ?_⟩) hS0 ?_
    rotate_left
    · intro w' hw'; go_simp; try with_reducible rfl
    try simp only [Act.put, List.setIfInBounds_toArray, List.set_cons_zero, List.set_cons_succ]
    refine wpAnyH_takeD (some 17) (i := 6) (v := ?_) rfl rfl (by kernel_rfl) (by kernel_rfl) (by kernel_rfl) (fun _ _ _ h => h) (.inl ⟨by kernel_rfl, ?_⟩) hS0 ?_
    rotate_left
    · intro w' hw'; go_simp; try with_reducible rfl
    try simp only [Act.put, List.setIfInBounds_toArray, List.set_cons_zero, List.set_cons_succ]
    refine wpAnyH_all (rs := [2, 7]) (by kernel_rfl) (by simp) ?_
    intro i hi; simp only [List.mem_cons, List.not_mem_nil, or_false] at hi
    rcases hi with rfl | rfl
    · refine wpOp_step rfl (fun K hK => ?_)
      go_simp
      with_reducible refine (HI.out W0).mono ?_
      rintro e v1 ⟨rfl, hB1⟩
      replace bR := bR.trans (hB1.mono bR.size)
      have hS1 : (fun _ : World => True) v1 := trivial
      refine hK _ _ ⟨hS1, ?_⟩
      try simp only [Act.put, List.setIfInBounds_toArray, List.set_cons_zero, List.set_cons_succ]
      clear hB1 hK K hS0
      refine wpAnyH_all (rs := [7]) (by kernel_rfl) (by simp) ?_
      intro i hi; simp only [List.mem_cons, List.not_mem_nil, or_false] at hi
      subst hi
      refine wpOp_step rfl (fun K hK => ?_)
      go_simp
      have rc := Row.new v1 5 [.int .u8 (48 + r)]
      have hA : Below v1.heap.size v1 (v1.alloc (.cells #[.int .u8 (48 + r)] 5)) := (Below.refl _ _).alloc (Nat.le_refl _) _
      have l_rc := bR.size
      replace bR := bR.trans (hA.mono bR.size)
      have hS2 : (fun _ : World => True) (v1.alloc (.cells #[.int .u8 (48 + r)] 5)) := trivial
      refine hK _ _ ⟨hS2, ?_⟩
      try simp only [Act.put, List.setIfInBounds_toArray, List.set_cons_zero, List.set_cons_succ]
      obtain ⟨X2, hX2⟩ : ∃ X, X = v1.alloc (.cells #[.int .u8 (48 + r)] 5) := ⟨_, rfl⟩
      rw [← hX2] at  rc bR hS2 ⊢
      clear hX2 hA hK K hS1
      refine wpAnyH_all (rs := [8]) (by kernel_rfl) (by simp) ?_
      intro i hi; simp only [List.mem_cons, List.not_mem_nil, or_false] at hi
      subst hi
      refine wpOp_step rfl (fun K hK => ?_)
      have hcv := conv_one (48 + r) X2 (v1.heap.size) (rc.cell 0)
      go_simp
      refine hK _ _ ⟨hS2, ?_⟩
      try simp only [Act.put, List.setIfInBounds_toArray, List.set_cons_zero, List.set_cons_succ]
      clear hK K
      refine wpAnyH_takeD (some 20) (i := 9) (v := ?_) rfl rfl (by kernel_rfl) (by kernel_rfl) (by kernel_rfl) (fun _ _ _ h => h) (.inl ⟨by kernel_rfl, ?_⟩) hS2 ?_
      rotate_left
      · intro w' hw'; go_simp; try with_reducible rfl
      try simp only [Act.put, List.setIfInBounds_toArray, List.set_cons_zero, List.set_cons_succ]
      refine wpAnyH_takeD (some 2) (i := 10) (v := ?_) rfl rfl (by kernel_rfl) (by kernel_rfl) (by kernel_rfl) (fun _ _ _ h => h) (.inl ⟨by kernel_rfl, ?_⟩) hS2 ?_
      rotate_left
      · intro w' hw'; go_simp; try with_reducible rfl
      try simp only [Act.put, List.setIfInBounds_toArray, List.set_cons_zero, List.set_cons_succ]
      refine wpAnyH_done (by kernel_rfl) ?_ _
      go_wp2_with fail
      go_ret
      exact ⟨(show _ = Ending.returned (.string ((⟨s.toArray⟩ : ByteArray) ++ ⟨#[UInt8.ofNat (48 + r).toNat]⟩)) from rfl).trans (by rw [hE.out]; exact congrArg _ (congrArg _ (app_mk s [c8]))), bW0.trans (bR.mono bW0.size)⟩
    · refine wpOp_step rfl (fun K hK => ?_)
      go_simp
      have rc := Row.new W0 5 [.int .u8 (48 + r)]
      have hA : Below W0.heap.size W0 (W0.alloc (.cells #[.int .u8 (48 + r)] 5)) := (Below.refl _ _).alloc (Nat.le_refl _) _
      have l_rc := bR.size
      replace bR := bR.trans (hA.mono bR.size)
      have hS4 : (fun _ : World => True) (W0.alloc (.cells #[.int .u8 (48 + r)] 5)) := trivial
      refine hK _ _ ⟨hS4, ?_⟩
      try simp only [Act.put, List.setIfInBounds_toArray, List.set_cons_zero, List.set_cons_succ]
      obtain ⟨X4, hX4⟩ : ∃ X, X = W0.alloc (.cells #[.int .u8 (48 + r)] 5) := ⟨_, rfl⟩
      rw [← hX4] at  rc bR hS4 ⊢
      clear hX4 hA hK K hS0
      refine wpAnyH_all (rs := [2, 8]) (by kernel_rfl) (by simp) ?_
      intro i hi; simp only [List.mem_cons, List.not_mem_nil, or_false] at hi
      rcases hi with rfl | rfl
      · refine wpOp_step rfl (fun K hK => ?_)
        go_simp
        with_reducible refine (HI.out X4).mono ?_
        rintro e v5 ⟨rfl, hB5⟩
        replace rc := rc.below hB5 rc.lt
        replace bR := bR.trans (hB5.mono bR.size)
        have hS5 : (fun _ : World => True) v5 := trivial
        refine hK _ _ ⟨hS5, ?_⟩
        try simp only [Act.put, List.setIfInBounds_toArray, List.set_cons_zero, List.set_cons_succ]
        clear hB5 hK K hS4
        refine wpAnyH_all (rs := [8]) (by kernel_rfl) (by simp) ?_
        intro i hi; simp only [List.mem_cons, List.not_mem_nil, or_false] at hi
        subst hi
        refine wpOp_step rfl (fun K hK => ?_)
        have hcv := conv_one (48 + r) v5 (W0.heap.size) (rc.cell 0)
        go_simp
        refine hK _ _ ⟨hS5, ?_⟩
        try simp only [Act.put, List.setIfInBounds_toArray, List.set_cons_zero, List.set_cons_succ]
        clear hK K
        refine wpAnyH_takeD (some 20) (i := 9) (v := ?_) rfl rfl (by kernel_rfl) (by kernel_rfl) (by kernel_rfl) (fun _ _ _ h => h) (.inl ⟨by kernel_rfl, ?_⟩) hS5 ?_
        rotate_left
        · intro w' hw'; go_simp; try with_reducible rfl
        try simp only [Act.put, List.setIfInBounds_toArray, List.set_cons_zero, List.set_cons_succ]
        refine wpAnyH_takeD (some 2) (i := 10) (v := ?_) rfl rfl (by kernel_rfl) (by kernel_rfl) (by kernel_rfl) (fun _ _ _ h => h) (.inl ⟨by kernel_rfl, ?_⟩) hS5 ?_
        rotate_left
        · intro w' hw'; go_simp; try with_reducible rfl
        try simp only [Act.put, List.setIfInBounds_toArray, List.set_cons_zero, List.set_cons_succ]
        refine wpAnyH_done (by kernel_rfl) ?_ _
        go_wp2_with fail
        go_ret
        exact ⟨(show _ = Ending.returned (.string ((⟨s.toArray⟩ : ByteArray) ++ ⟨#[UInt8.ofNat (48 + r).toNat]⟩)) from rfl).trans (by rw [hE.out]; exact congrArg _ (congrArg _ (app_mk s [c8]))), bW0.trans (bR.mono bW0.size)⟩
      · refine wpOp_step rfl (fun K hK => ?_)
        have hcv := conv_one (48 + r) X4 (W0.heap.size) (rc.cell 0)
        go_simp
        refine hK _ _ ⟨hS4, ?_⟩
        try simp only [Act.put, List.setIfInBounds_toArray, List.set_cons_zero, List.set_cons_succ]
        clear hK K
        refine wpAnyH_all (rs := [2]) (by kernel_rfl) (by simp) ?_
        intro i hi; simp only [List.mem_cons, List.not_mem_nil, or_false] at hi
        subst hi
        refine wpOp_step rfl (fun K hK => ?_)
        go_simp
        with_reducible refine (HI.out X4).mono ?_
        rintro e v8 ⟨rfl, hB8⟩
        replace rc := rc.below hB8 rc.lt
        replace bR := bR.trans (hB8.mono bR.size)
        have hS8 : (fun _ : World => True) v8 := trivial
        refine hK _ _ ⟨hS8, ?_⟩
        try simp only [Act.put, List.setIfInBounds_toArray, List.set_cons_zero, List.set_cons_succ]
        clear hB8 hK K hS4
        refine wpAnyH_takeD (some 20) (i := 9) (v := ?_) rfl rfl (by kernel_rfl) (by kernel_rfl) (by kernel_rfl) (fun _ _ _ h => h) (.inl ⟨by kernel_rfl, ?_⟩) hS8 ?_
        rotate_left
        · intro w' hw'; go_simp; try with_reducible rfl
        try simp only [Act.put, List.setIfInBounds_toArray, List.set_cons_zero, List.set_cons_succ]
        refine wpAnyH_takeD (some 2) (i := 10) (v := ?_) rfl rfl (by kernel_rfl) (by kernel_rfl) (by kernel_rfl) (fun _ _ _ h => h) (.inl ⟨by kernel_rfl, ?_⟩) hS8 ?_
        rotate_left
        · intro w' hw'; go_simp; try with_reducible rfl
        try simp only [Act.put, List.setIfInBounds_toArray, List.set_cons_zero, List.set_cons_succ]
        refine wpAnyH_done (by kernel_rfl) ?_ _
        go_wp2_with fail
        go_ret
        exact ⟨(show _ = Ending.returned (.string ((⟨s.toArray⟩ : ByteArray) ++ ⟨#[UInt8.ofNat (48 + r).toNat]⟩)) from rfl).trans (by rw [hE.out]; exact congrArg _ (congrArg _ (app_mk s [c8]))), bW0.trans (bR.mono bW0.size)⟩
end Go.Proofs.YtcbhlljgcndhdaaGreatDoor
