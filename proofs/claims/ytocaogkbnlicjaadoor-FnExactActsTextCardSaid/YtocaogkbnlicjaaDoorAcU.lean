/- ActsText. -/
import Derived.Test.YtocaogkbnlicjaaDoorAcT
namespace Go.Proofs.YtocaogkbnlicjaaDoor
open Go.RowKit Go.Shelf
set_option linter.unusedVariables false
set_option linter.unusedSimpArgs false
theorem cell_ltA {w : World} {a : Addr} {v : Value} (h : w.cell? a = some v) : a.block < w.heap.size := by
  unfold World.cell? at h
  by_cases k : a.block < w.heap.size
  · exact k
  · simp [Array.getElem?_eq_none (by omega : w.heap.size ≤ a.block)] at h
set_option maxRecDepth 100000 in
set_option maxHeartbeats 4000000 in
theorem implACT_any (b n cap : Nat) (js : List (Int × Int)) (w : World) (hR : Ast w b js) (hn : n = js.length) (ht : Lib.TabIs Tryd.prog w "internal/strconv.uint64pow10" .u64 Lib.pow10Tab) (hg : 4 < w.heap.size) (a0 : Addr) (hE0 : w.cell? ⟨0, 0, none⟩ = some (.iface 205 (.pointer (some a0)))) (a1 : Addr) (hE1 : w.cell? ⟨1, 0, none⟩ = some (.iface 205 (.pointer (some a1)))) :
    Calls Tryd.prog 25 #[.slice (some ⟨b, 0, none⟩) n cap] w fun e w' => e = .returned (.string ⟨(acR js).toArray⟩) ∧ Below w.heap.size w w' := by
  cases hv : okAs js with
  | false =>
    rw [acR_bad hv]
    have HV := hid (actsErr_bad b n cap js w hR hn hv _ hE0 (cell_ltA hE0))
    clear hv hn hR ht hg hE0 hE1
    go_enter Tryd.func25, Tryd.ntmps25
    go_wp2_with (go_at_call 57; refine HV.out.mono ?_; rintro e w1 ⟨rfl, hB1⟩)
    go_ret
    exact ⟨rfl, hB1⟩
  | true =>
    by_cases h60 : 60 < n
    · rw [acR_long (by omega)]
      have HV := hid (actsErr_long b n cap js w hR hn hv h60 _ hE1 (cell_ltA hE1))
      clear hv hn hR ht hg hE0 hE1 h60
      go_enter Tryd.func25, Tryd.ntmps25
      go_wp2_with (go_at_call 57; refine HV.out.mono ?_; rintro e w1 ⟨rfl, hB1⟩)
      go_ret
      exact ⟨rfl, hB1⟩
    have h61 : n ≤ 60 := by omega
    have HV := hid (actsErr_ok b n cap js w hR hn hv h61)
    have HR := hid hR; have HN := hid hn; have HT0 := hid ht; have HG0 := hid hg
    have HTO := hid (okAs_out hv)
    have HLEN := hid (acA_len js HTO.out)
    rw [acR_yes hv (by omega), ← hn]
    clear hv hn hR ht hg hE0 hE1 h60
    go_enter Tryd.func25, Tryd.ntmps25
    go_wp2_with fail
    refine HV.out.mono ?_
    rintro e w1 ⟨rfl, hB1⟩
    have B1 := hid hB1
    have hz1 := hB1.size
    have HTB := hid (tab_belowO HT0.out hB1 HG0.out)
    have HG1 := hid (Nat.lt_of_lt_of_le HG0.out hz1)
    have HP := hid (HR.out.below hB1 HR.out.1)
    have HBN := hid (BuS.new w1)
    have HBW := hid (show Below w1.heap.size w1 (w1.alloc (.cells #[.pointer none, .slice none 0 0] 86)) from (Below.refl _ _).alloc (Nat.le_refl _) _)
    clear hB1
    go_wp2_with fail
    go_loopw [11] (fun i wr => ∃ k : Nat, k ≤ n ∧ i = .int .i64 k ∧ BuS wr w1.heap.size (acA js k) ∧ Below w1.heap.size w1 wr) (fun i _ => n - (intOf i).toNat)
    case atStart => exact ⟨0, by omega, rfl, HBN.out, HBW.out⟩
    case round =>
      obtain ⟨k, hk, rfl, hU, hB⟩ := hrel
      have hzr := hB.size
      by_cases hkn : k < n
      · have sP := HP.out.below hB HP.out.1
        have hkl : k < js.length := by have := HN.out; omega
        obtain ⟨x0, x1⟩ := sP.2.1 k hkl
        have HSN0 := acA_succ js k
        have lL := HLEN.out k (by omega)
        have l1 := acW_len (HTO.out k hkl)
        have HX0 := fun W t g => actText_any (ak js k) (an js k) (HTO.out k hkl) W t g
        unfold acP at HSN0
        obtain ⟨p, hp⟩ : ∃ y, ak js k = y := ⟨_, rfl⟩
        obtain ⟨q, hq⟩ : ∃ y, an js k = y := ⟨_, rfl⟩
        rw [hp] at x0 HX0 l1 HSN0
        rw [hq] at x1 HX0 l1 HSN0
        obtain ⟨A, hA⟩ : ∃ y, acW p q = y := ⟨_, rfl⟩
        rw [hA] at HX0 l1 HSN0
        obtain ⟨L, hL⟩ : ∃ y, acA js k = y := ⟨_, rfl⟩
        rw [hL] at hU lL HSN0
        have HX := hid HX0
        have HW := hid (fun W h => write_any w1.heap.size L A W h (by omega))
        have HSN := hid HSN0
        have k0 : (0 : Int) ≤ (k : Int) := by omega
        have k1 : (k : Int) < (n : Int) := by omega
        have w1' : IntKind.i64.wrap ((k : Int) + 1) = (k : Int) + 1 := IntWalk.i64_in _ (by omega)
        have bB := hid (show Below w1.heap.size w1 (wr.alloc (.cells #[.int .i8 p, .int .i64 q] 108)) from hB.alloc hB.size _)
        have hO := hid (show BuS (wr.alloc (.cells #[.int .i8 p, .int .i64 q] 108)) w1.heap.size L from hU.below ((Below.refl _ _).alloc (Nat.le_refl _) _) hU.1)
        clear hp hq hA HSN0 HX0 l1 hU hB sP lL hL
        go_wp2_with fail
        clear x0 x1
        refine (HX.out _ (tab_belowO HTB.out bB.out HG1.out) (by have := HG1.out; have := bB.out.size; omega)).mono ?_
        rintro e w2 ⟨rfl, hB2⟩
        have b2 := hid (bB.out.trans (hB2.mono bB.out.size))
        have hO2 := hid (hO.out.below hB2 hO.out.1)
        clear hB2
        go_wp2_with fail
        refine (HW.out w2 hO2.out).mono ?_
        rintro e w3 ⟨rfl, hU3, hB3, _⟩
        have OU := hid hU3
        have bel := hid (b2.out.trans hB3)
        clear hU3 hB3
        go_wp2_with fail
        go_roundw
        case rel => exact ⟨k + 1, by omega, by go_num, by rw [HSN.out]; exact OU.out, bel.out⟩
        case measure => simp [intOf]; omega
      · obtain rfl : k = n := by omega
        have k1 : ¬ (k : Int) < (k : Int) := by omega
        have HJ := hid (bstring_any w1.heap.size (acA js k) wr hU)
        have BB := hid hB
        clear hU hB
        go_wp2_with (go_at_call 46; refine HJ.out.mono ?_; rintro e w9 ⟨rfl, hB9⟩)
        go_ret
        exact ⟨rfl, B1.out.trans ((BB.out.trans hB9).mono hz1)⟩
theorem word_at (m : Nat) (h : 1 ≤ m ∧ m ≤ 5) : ([.string ⟨#[]⟩, .string ⟨#[112, 117, 108, 115, 101]⟩, .string ⟨#[98, 97, 99, 107]⟩, .string ⟨#[112, 114, 101, 115, 101, 116]⟩, .string ⟨#[114, 101, 115, 101, 116]⟩, .string ⟨#[116, 105, 99, 107, 101, 116]⟩] : List Value)[m]? = some (.string ⟨(wordA (m : Int)).toArray⟩) := by
  have h5 : m = 1 ∨ m = 2 ∨ m = 3 ∨ m = 4 ∨ m = 5 := by omega
  rcases h5 with rfl | rfl | rfl | rfl | rfl <;> rfl
theorem app_act3 (L W A : List UInt8) : ((⟨L.toArray⟩ : ByteArray) ++ ⟨W.toArray⟩) ++ ((⟨#[32]⟩ : ByteArray) ++ ⟨A.toArray⟩) ++ ⟨#[10]⟩ = ⟨(L ++ (W ++ [32] ++ A ++ [10])).toArray⟩ := by
  rw [show (⟨#[32]⟩ : ByteArray) = ⟨([32] : List UInt8).toArray⟩ from rfl, show (⟨#[10]⟩ : ByteArray) = ⟨([10] : List UInt8).toArray⟩ from rfl, app_mk, app_mk, app_mk, app_mk]
  simp
theorem app_act1 (L W : List UInt8) : ((⟨L.toArray⟩ : ByteArray) ++ ⟨W.toArray⟩) ++ ⟨#[10]⟩ = ⟨(L ++ (W ++ [10])).toArray⟩ := by
  rw [show (⟨#[10]⟩ : ByteArray) = ⟨([10] : List UInt8).toArray⟩ from rfl, app_mk, app_mk]
  simp
set_option maxRecDepth 100000 in
set_option maxHeartbeats 4000000 in
theorem l07Text_any (b n cap : Nat) (js : List (Int × Int)) (w : World) (hR : Ast w b js) (hn : n = js.length) (hv : okAs js = true) (h60 : n ≤ 60) :
    Calls Tryd.prog 55 #[.slice (some ⟨b, 0, none⟩) n cap] w fun e w' => e = .returned (.string ⟨(acA js js.length).toArray⟩) ∧ Below w.heap.size w w' := by
  have HN := hid hn; have HS := hid hR
  have HTO := hid (okAs_out hv)
  have HLEN := hid (acA_len js HTO.out)
  rw [← hn]
  clear hR hv hn
  go_enter Tryd.func55, Tryd.ntmps55
  go_wp2_with fail
  go_loopw [3, 4] (fun v i wr => ∃ k : Nat, k ≤ n ∧ i = .int .i64 k ∧ v = .string ⟨(acA js k).toArray⟩ ∧ Ast wr b js ∧ Below w.heap.size w wr) (fun _ i _ => n - (intOf i).toNat)
  case atStart => exact ⟨0, by omega, rfl, rfl, HS.out, Below.refl _ _⟩
  case round =>
    obtain ⟨k, hk, rfl, rfl, sP, hB⟩ := hrel
    have hzr := hB.size
    by_cases hkn : k < n
    · have hkl : k < js.length := by have := HN.out; omega
      have lA := HLEN.out k (by omega)
      have hok := HTO.out k hkl
      have lW := acW_len hok
      have e1 := acA_succ js k
      have x0f : ∀ {W : World}, Ast W b js → W.cell? ⟨b, k * 2, none⟩ = some (.int .i8 (ak js k)) := fun h => (h.2.1 k hkl).1
      have x1f : ∀ {W : World}, Ast W b js → W.cell? ⟨b, k * 2 + 1, none⟩ = some (.int .i64 (an js k)) := fun h => (h.2.1 k hkl).2
      unfold acP at e1
      obtain ⟨p, hp⟩ : ∃ y, ak js k = y := ⟨_, rfl⟩
      obtain ⟨q, hq⟩ : ∃ y, an js k = y := ⟨_, rfl⟩
      rw [hp] at x0f hok e1 lW
      rw [hq] at x1f hok e1 lW
      have HSG0 := fun W => signed_any q ⟨(okAct_bd hok).1, (okAct_bd hok).2.1⟩ W
      have hkd := okAct_kind hok
      obtain ⟨m, rfl⟩ : ∃ m : Nat, p = (m : Int) := ⟨p.toNat, by omega⟩
      have hm15 : 1 ≤ m ∧ m ≤ 5 := by omega
      have m0 : (0 : Int) ≤ (m : Int) := by omega
      have m6 : (m : Int) < 6 := by omega
      have lWd := wordA_len (m : Int)
      have lAq := itoa_act q ⟨(okAct_bd hok).1, (okAct_bd hok).2.1⟩
      have eW1 : m ≤ 3 → acW (m : Int) q = wordA (m : Int) ++ [32] ++ Lib.itoa q ++ [10] := fun h => by rw [acW, if_pos (by omega)]
      have eW2 : ¬ m ≤ 3 → acW (m : Int) q = wordA (m : Int) ++ [10] := fun h => by rw [acW, if_neg (by omega)]
      obtain ⟨A, hA⟩ : ∃ y, Lib.itoa q = y := ⟨_, rfl⟩
      obtain ⟨L, hL⟩ : ∃ y, acA js k = y := ⟨_, rfl⟩
      rw [hA] at HSG0 lAq eW1
      rw [hL] at lA e1 ⊢
      have HF1 := hid (fun h3 => (by rw [e1, eW1 h3, app_act3] : Value.string (((⟨L.toArray⟩ : ByteArray) ++ ⟨(wordA (m : Int)).toArray⟩) ++ ((⟨#[32]⟩ : ByteArray) ++ ⟨A.toArray⟩) ++ ⟨#[10]⟩) = .string ⟨(acA js (k + 1)).toArray⟩))
      have HF2 := hid (fun h3 => (by rw [e1, eW2 h3, app_act1] : Value.string (((⟨L.toArray⟩ : ByteArray) ++ ⟨(wordA (m : Int)).toArray⟩) ++ ⟨#[10]⟩) = .string ⟨(acA js (k + 1)).toArray⟩))
      have hWA := word_at m hm15
      obtain ⟨Wd, hWd⟩ : ∃ y, wordA (m : Int) = y := ⟨_, rfl⟩
      rw [hWd] at HF1 HF2 lWd
      rw [hWd] at hWA
      have HSG := hid HSG0
      have k0 : (0 : Int) ≤ (k : Int) := by omega
      have k1 : (k : Int) < (n : Int) := by omega
      have w1' : IntKind.i64.wrap ((k : Int) + 1) = (k : Int) + 1 := IntWalk.i64_in _ (by omega)
      have s1 : ¬ (9223372036854775807 < L.length + Wd.length) := by omega
      have s2 : ¬ (9223372036854775807 < 1 + A.length) := by omega
      have s3 : ¬ (9223372036854775807 < L.length + Wd.length + (1 + A.length)) := by omega
      have s4 : ¬ (9223372036854775807 < L.length + Wd.length + (1 + A.length) + 1) := by omega
      have s5 : ¬ (9223372036854775807 < L.length + Wd.length + 1) := by omega
      clear hok lW lWd lAq eW1 eW2 hA hL hWd HSG0 hkd hp hq e1 lA
      go_wp2_with fail
      refine wp_region_held (S := fun W' : World => W'.cell? ⟨b, k * 2, none⟩ = some (.int .i8 (m : Int))) (by kernel_rfl) ?_
      change wpAnyH _ _ _ _ _ _ _ _ (World.drew _)
      obtain ⟨W0, hW0⟩ : ∃ X, X = World.drew (wr) := ⟨_, rfl⟩
      have hD0 : Below (wr).heap.size (wr) W0 := by rw [hW0]; exact (Below.refl _ _).drew
      replace sP := sP.below hD0 sP.1
      have bW0 := hB.trans (hD0.mono hB.size)
      have bR : Below W0.heap.size W0 W0 := Below.refl _ _
      rw [← hW0]
      clear hW0 hD0
      have l_sP := sP.1
      have hS0 : (fun W' : World => W'.cell? ⟨b, k * 2, none⟩ = some (.int .i8 (m : Int))) W0 := (x0f sP)
      refine wpAnyH_takeD (some 11) (i := 0) (v := ?_) rfl rfl (by kernel_rfl) (by kernel_rfl) (by kernel_rfl) (fun _ _ _ h => h) (.inl ⟨by kernel_rfl, ?_⟩) hS0 ?_
      rotate_left
      · intro w' hw'; go_simp; try with_reducible rfl
      try simp only [Act.put, List.setIfInBounds_toArray, List.set_cons_zero, List.set_cons_succ]
      refine wpAnyH_takeD (some 13) (i := 2) (v := ?_) rfl rfl (by kernel_rfl) (by kernel_rfl) (by kernel_rfl) (fun _ _ _ h => h) (.inl ⟨by kernel_rfl, ?_⟩) hS0 ?_
      rotate_left
      · intro w' hw'; go_simp; try with_reducible rfl
      try simp only [Act.put, List.setIfInBounds_toArray, List.set_cons_zero, List.set_cons_succ]
      refine wpAnyH_takeD (some 14) (i := 3) (v := ?_) rfl rfl (by kernel_rfl) (by kernel_rfl) (by kernel_rfl) (fun _ _ _ h => h) (.inl ⟨by kernel_rfl, ?_⟩) hS0 ?_
      rotate_left
      · intro w' hw'; go_simp; try with_reducible rfl
      try simp only [Act.put, List.setIfInBounds_toArray, List.set_cons_zero, List.set_cons_succ]
      refine wpAnyH_takeD (some 15) (i := 4) (v := ?_) rfl rfl (by kernel_rfl) (by kernel_rfl) (by kernel_rfl) (fun _ _ _ h => h) (.inl ⟨by kernel_rfl, ?_⟩) hS0 ?_
      rotate_left
      · intro w' hw'; have e0 := hw'; clear hw'; go_simp; try with_reducible rfl
      try simp only [Act.put, List.setIfInBounds_toArray, List.set_cons_zero, List.set_cons_succ]
      refine wpAnyH_takeD (some 16) (i := 5) (v := ?_) rfl rfl (by kernel_rfl) (by kernel_rfl) (by kernel_rfl) (fun _ _ _ h => h) (.inl ⟨by kernel_rfl, ?_⟩) hS0 ?_
      rotate_left
      · intro w' hw'; have e0 := hw'; clear hw'; go_simp; try with_reducible rfl
      try simp only [Act.put, List.setIfInBounds_toArray, List.set_cons_zero, List.set_cons_succ]
      refine wpAnyH_takeD (some 17) (i := 6) (v := ?_) rfl rfl (by kernel_rfl) (by kernel_rfl) (by kernel_rfl) (fun _ _ _ h => h) (.inl ⟨by kernel_rfl, ?_⟩) hS0 ?_
      rotate_left
      · intro w' hw'; have e0 := hw'; clear hw'; go_simp; try with_reducible rfl
      try simp only [Act.put, List.setIfInBounds_toArray, List.set_cons_zero, List.set_cons_succ]
      refine wpAnyH_all (rs := [1]) (by kernel_rfl) (by simp) ?_
      intro i hi; simp only [List.mem_cons, List.not_mem_nil, or_false] at hi
      subst hi
      refine wpOp_step rfl (fun K hK => ?_)
      go_simp
      with_reducible refine (l07Words_any W0).mono ?_
      rintro e v1 ⟨rfl, hB1, rW⟩
      replace sP := sP.below hB1 sP.1
      replace bR := bR.trans (hB1.mono bR.size)
      have hS1 : (fun W' : World => W'.cell? ⟨b, k * 2, none⟩ = some (.int .i8 (m : Int))) v1 := (x0f sP)
      refine hK _ _ ⟨hS1, ?_⟩
      try simp only [Act.put, List.setIfInBounds_toArray, List.set_cons_zero, List.set_cons_succ]
      clear hB1 hK K hS0
      refine wpAnyH_all (rs := [7]) (by kernel_rfl) (by simp) ?_
      intro i hi; simp only [List.mem_cons, List.not_mem_nil, or_false] at hi
      subst hi
      refine wpOp_step rfl (fun K hK => ?_)
      go_simp
      refine hK _ _ ⟨hS1, ?_⟩
      try simp only [Act.put, List.setIfInBounds_toArray, List.set_cons_zero, List.set_cons_succ]
      clear hK K
      refine wpAnyH_all (rs := [8]) (by kernel_rfl) (by simp) ?_
      intro i hi; simp only [List.mem_cons, List.not_mem_nil, or_false] at hi
      subst hi
      refine wpOp_step rfl (fun K hK => ?_)
      have cW := (rW.cell m).trans hWA
      go_simp
      refine hK _ _ ⟨hS1, ?_⟩
      try simp only [Act.put, List.setIfInBounds_toArray, List.set_cons_zero, List.set_cons_succ]
      clear hK K
      refine wpAnyH_takeD (some 20) (i := 9) (v := ?_) rfl rfl (by kernel_rfl) (by kernel_rfl) (by kernel_rfl) (fun _ _ _ h => h) (.inl ⟨by kernel_rfl, ?_⟩) hS1 ?_
      rotate_left
      · intro w' hw'; go_simp; try with_reducible rfl
      try simp only [Act.put, List.setIfInBounds_toArray, List.set_cons_zero, List.set_cons_succ]
      refine wpAnyH_takeD (some 3) (i := 10) (v := ?_) rfl rfl (by kernel_rfl) (by kernel_rfl) (by kernel_rfl) (fun _ _ _ h => h) (.inl ⟨by kernel_rfl, ?_⟩) hS1 ?_
      rotate_left
      · intro w' hw'; go_simp; try with_reducible rfl
      try simp only [Act.put, List.setIfInBounds_toArray, List.set_cons_zero, List.set_cons_succ]
      refine wpAnyH_done (by kernel_rfl) ?_ _
      have bX := hid (bW0.trans (bR.mono bW0.size))
      have sX := sP
      have x0 := x0f sX; have x1 := x1f sX
      have SX := hid sX
      clear sP sX rW bW0 bR hB
      by_cases hm3 : m ≤ 3
      · have g3 : (m : Int) ≤ 3 := by omega
        have HFIN := hid (HF1.out hm3)
        go_wp2_with fail
        refine (HSG.out _).mono ?_
        rintro e w5 ⟨rfl, hB5⟩
        have b5 := hid (bX.out.trans (hB5.mono bX.out.size))
        have s5 := hid (SX.out.below hB5 SX.out.1)
        clear hB5
        go_wp2_with fail
        go_roundw
        case rel => exact ⟨k + 1, by omega, by go_num, HFIN.out, s5.out, b5.out⟩
        case measure => simp [intOf] <;> omega
      · have g3 : ¬ (m : Int) ≤ 3 := by omega
        have HFIN := hid (HF2.out hm3)
        go_wp2_with fail
        go_roundw
        case rel => exact ⟨k + 1, by omega, by go_num, HFIN.out, SX.out, bX.out⟩
        case measure => simp [intOf] <;> omega
    · obtain rfl : k = n := by omega
      have k1 : ¬ (k : Int) < (k : Int) := by omega
      clear sP
      go_wp2_with fail
      go_ret
      exact ⟨rfl, hB⟩
set_option maxRecDepth 100000 in
set_option maxHeartbeats 4000000 in
theorem specACT_any (b n cap : Nat) (js : List (Int × Int)) (w : World) (hR : Ast w b js) (hn : n = js.length) :
    Calls Tryd.prog 23 #[.slice (some ⟨b, 0, none⟩) n cap] w fun e w' => e = .returned (.string ⟨(acR js).toArray⟩) ∧ Below w.heap.size w w' := by
  by_cases h60 : 60 < n
  · rw [acR_long (by omega)]
    have g : (60 : Int) < (n : Int) := by omega
    clear hR hn h60
    go_enter Tryd.func23, Tryd.ntmps23
    go_wp2_with fail
    go_ret
    exact ⟨rfl, Below.refl _ _⟩
  have g : ¬ (60 : Int) < (n : Int) := by omega
  have h61 : n ≤ 60 := by omega
  have HA := hid hR; have HN := hid hn
  have HTX := hid (fun (w1 : World) (hB : Below w.heap.size w w1) (hv : okAs js = true) => by
    have := l07Text_any b n cap js w1 (hR.below hB hR.1) hn hv h61
    rw [← acR_yes hv (by omega)] at this
    exact this)
  clear hR hn
  go_enter Tryd.func23, Tryd.ntmps23
  go_wp2_with fail
  go_loopw [3] (fun i wr => ∃ k : Nat, k ≤ n ∧ i = .int .i64 k ∧ okATo js k ∧ Below w.heap.size w wr) (fun i _ => n - (intOf i).toNat)
  case atStart => exact ⟨0, by omega, rfl, okATo_zero js, Below.refl _ _⟩
  case round =>
    obtain ⟨k, hk, rfl, hto, hB⟩ := hrel
    have hzr := hB.size
    by_cases hkn : k < n
    · have hkl : k < js.length := by have := HN.out; omega
      obtain ⟨x0, x1⟩ := (HA.out.below hB HA.out.1).2.1 k hkl
      have HTO := hid hto
      have HBD := hid (fun h => acR_bad (okAs_bad (js := js) k hkl h))
      have HST := hid (fun h => okATo_succ (js := js) (k := k) HTO.out h)
      have HF := hid (l07Act_any (ak js k) (an js k) wr)
      obtain ⟨r, hr⟩ : ∃ r, okAct (ak js k) (an js k) = r := ⟨_, rfl⟩
      rw [hr] at HF HBD HST
      obtain ⟨p, hp⟩ : ∃ y, ak js k = y := ⟨_, rfl⟩
      obtain ⟨q, hq⟩ : ∃ y, an js k = y := ⟨_, rfl⟩
      rw [hp] at x0 HF
      rw [hq] at x1 HF
      have k0 : (0 : Int) ≤ (k : Int) := by omega
      have k1 : (k : Int) < (n : Int) := by omega
      have w1' : IntKind.i64.wrap ((k : Int) + 1) = (k : Int) + 1 := IntWalk.i64_in _ (by omega)
      have HB := hid hB
      clear hr hp hq hto hB
      cases r
      · go_wp2_with fail
        refine HF.out.mono ?_
        rintro e w1 ⟨rfl, hB1⟩
        go_wp2_with fail
        go_ret
        exact ⟨by rw [HBD.out (by simp)]; rfl, HB.out.trans (hB1.mono hzr)⟩
      · go_wp2_with fail
        refine HF.out.mono ?_
        rintro e w1 ⟨rfl, hB1⟩
        have HB1 := hid (HB.out.trans (hB1.mono hzr))
        clear hB1
        go_wp2_with fail
        go_roundw
        case rel => exact ⟨k + 1, by omega, by go_num, HST.out (by simp), HB1.out⟩
        case measure => simp [intOf]; omega
    · obtain rfl : k = n := by omega
      have k1 : ¬ (k : Int) < (k : Int) := by omega
      have HJ := hid (HTX.out wr hB (okAs_of (by rw [← HN.out]; exact hto)))
      have BB := hid hB
      clear hto hB
      go_wp2_with fail
      refine HJ.out.mono ?_
      rintro e w9 ⟨rfl, hB9⟩
      go_wp2_with fail
      go_ret
      exact ⟨rfl, BB.out.trans (hB9.mono hzr)⟩
end Go.Proofs.YtocaogkbnlicjaaDoor
