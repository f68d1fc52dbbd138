/- Texts of this seat, merged: Dx3 Chk Dx4 Dx5 ActL Dx6 Dx7 Dx8 Dx9 DigEq TickA DxA DxB. -/
import Derived.Laws.BitsAllLaws
import Derived.Laws.BitsLemmas
import Derived.Lib.SmallJoins
import Derived.Laws.StructEq
import Derived.Deep.RegionHeld3
import Derived.Test.YthifegbmpmialaaDoorMgD

namespace Go.Proofs.YthifegbmpmialaaDoor
open Go.RowKit
set_option linter.unusedVariables false
set_option linter.unusedSimpArgs false
set_option maxRecDepth 100000 in
set_option maxHeartbeats 2000000 in
theorem l07Copy_gen (D B n cap : Nat) (zs ds : List Int) (pr : Int) (st : Bool) (tk : Int) (w : World) (hD : Row w D 33 (dvC (.slice (some ⟨B, 0, none⟩) n cap) ds pr st tk)) (hS : Stk w B zs) (hn : n = zs.length) :
    Calls Tryd.prog 43 #[.pointer (some ⟨D, 0, none⟩)] w fun e w' => ∃ a cp, e = .returned (.agg (dvC (.slice a n cp) ds pr st tk).toArray) ∧ OwnB w' w.heap.size (.slice a n cp) zs ∧ Below w.heap.size w w' := by
  have hID : (Tryd.prog.info? 33).map (·.size) = some 12 := Tryd.infoDev
  obtain ⟨i0, hi, iz0, iz1, iz2⟩ := info_parts Tryd.infoU8
  have lD := hD.lt
  have lB := hS.1
  have d1 : Row (w.alloc (.cells #[.slice none 0 0, .int .u8 0, .int .u8 0, .int .u8 0, .int .u8 0, .int .u8 0, .int .u8 0, .int .u8 0, .int .u8 0, .int .i64 0, .bool false, .int .i64 0] 33)) D 33 (dvC (.slice (some ⟨B, 0, none⟩) n cap) ds pr st tk) := hD.alloc _
  obtain ⟨V1, hV1⟩ : ∃ V, V = (w.alloc (.cells #[.slice none 0 0, .int .u8 0, .int .u8 0, .int .u8 0, .int .u8 0, .int .u8 0, .int .u8 0, .int .u8 0, .int .u8 0, .int .i64 0, .bool false, .int .i64 0] 33)).alloc (.cells #[.slice none 0 0, .int .u8 0, .int .u8 0, .int .u8 0, .int .u8 0, .int .u8 0, .int .u8 0, .int .u8 0, .int .u8 0, .int .i64 0, .bool false, .int .i64 0] 33) := ⟨_, rfl⟩
  have bV1 : Below w.heap.size w V1 := by rw [hV1]; exact ((Below.refl _ _).alloc (Nat.le_refl _) _).alloc (by simp) _
  have s1 : V1.heap.size = w.heap.size + 1 + 1 := by rw [hV1]; simp
  have r2 : Row V1 w.heap.size 33 dvZ := by rw [hV1]; exact (Row.new w _ dvZ).alloc _
  have r3 : Row V1 (w.heap.size + 1) 33 dvZ := by
    have h := Row.new (w.alloc (.cells #[.slice none 0 0, .int .u8 0, .int .u8 0, .int .u8 0, .int .u8 0, .int .u8 0, .int .u8 0, .int .u8 0, .int .u8 0, .int .i64 0, .bool false, .int .i64 0] 33)) 33 dvZ
    simp only [World.size_alloc] at h
    rw [hV1]; exact h
  have T3 := r3.thereO 0 12 (by rw [dvZ_len]; omega)
  rw [hV1] at T3
  obtain ⟨W2, hW2⟩ : ∃ X, X = V1.setCells (w.heap.size + 1) 0 (dvC (.slice (some ⟨B, 0, none⟩) n cap) ds pr st tk) := ⟨_, rfl⟩
  have q2 : Row W2 w.heap.size 33 dvZ := by rw [hW2]; exact r2.setCellsO (by omega) _ _
  have q3 : Row W2 (w.heap.size + 1) 33 (dvC (.slice (some ⟨B, 0, none⟩) n cap) ds pr st tk) := by rw [hW2]; exact r3.setAll (ys := (dvC (.slice (some ⟨B, 0, none⟩) n cap) ds pr st tk)) (by rw [dvC_len, dvZ_len])
  have b2 : Below w.heap.size w W2 := by rw [hW2]; exact below_setCellsD (dvC (.slice (some ⟨B, 0, none⟩) n cap) ds pr st tk) 0 _ bV1 (by omega)
  have s2 : W2.heap.size = w.heap.size + 1 + 1 := by rw [hW2, size_setCellsD, s1]
  have qD : Row W2 D 33 (dvC (.slice (some ⟨B, 0, none⟩) n cap) ds pr st tk) := hD.below b2 lD
  have qS := hS.below b2 lB
  have HO := hid (show (W2.alloc (.cells #[] 5)).ownsRow (w.heap.size + 2) 5 1 (.slice (some ⟨W2.heap.size, 0, none⟩) 0 0) 0 [] from World.ownsRow_made W2 #[] 0 (by omega) (by decide) rfl)
  have A2 := hid (q2.alloc (.cells #[] 5)); have A3 := hid (q3.alloc (.cells #[] 5)); have AB := hid (b2.alloc b2.size (.cells #[] 5))
  have a3 := A3.out
  have cD : (W2.alloc (.cells #[] 5)).cell? ⟨D, 0, none⟩ = some (.slice (some ⟨B, 0, none⟩) n cap) := (qD.alloc (.cells #[] 5)).cell 0
  have HN := hid (fun (j : Nat) (u : Value) (hj : (zs.map (Value.int .u8))[j]? = some u) => show (W2.alloc (.cells #[] 5)).cell? ((⟨B, 0, none⟩ : Addr).add j) = some u from by
    have hl : j < zs.length := by have := (List.getElem?_eq_some_iff.1 hj).1; simpa using this
    have h := (qS.below ((Below.refl W2.heap.size W2).alloc (Nat.le_refl _) (.cells #[] 5)) qS.1).2.1 j hl
    rw [show (⟨B, 0, none⟩ : Addr).add j = ⟨B, j, none⟩ from by unfold Addr.add; split <;> simp_all, h]
    rw [← hj]; simp [hl, getElem!_def])
  have HONE := hid (show ∀ u ∈ (zs.map (Value.int .u8)), u.oneCell' = true from by
    intro u hu
    obtain ⟨z, _, rfl⟩ := List.mem_map.1 hu
    rfl)
  have HBW := hid (show w.heap.size + 2 ≤ (W2.alloc (.cells #[] 5)).heap.size by simp; omega)
  have HL := hid (show (zs.map (Value.int .u8)).length = n * 1 by simp; omega)
  have HS2 := hid s2; have HW2 := hid hW2; have HV1 := hid hV1; have HLD := hid lD; have HZ := hid (show n ≤ 1048576 by have := hS.2.2.2; omega)
  have hn8 : n ≤ 1048576 := HZ.out
  have HNN := hid hn
  clear hD hS bV1 r2 r3 q2 q3 b2 s2 s1 qD qS hW2 hV1 lD lB hn a3
  go_enter Tryd.func43, Tryd.ntmps43
  go_upto_region 2 with (first | ((with_reducible refine wpList_load_row rfl 33 _ rfl D ?_ 33 (dvC (.slice (some ⟨B, 0, none⟩) n cap) ds pr st tk).toArray (0, 0) _ ?_ Tryd.underlying33 ?_ ?_ ?_); rfl; exact d1; rfl; exact hID) | ((with_reducible refine wpList_store_mid rfl 33 _ _ rfl (w.heap.size + 1) 0 (dvC (.slice (some ⟨B, 0, none⟩) n cap) ds pr st tk).toArray ?_ ?_ ?_ ?_ (all_oneCell_toArray (dvC_one _ _ _ _ _ _ _)) ?_); rfl; rfl; exact T3; exact hID))
  have hW2' : World.setCells ((w.alloc (.cells #[.slice none 0 0, .int .u8 0, .int .u8 0, .int .u8 0, .int .u8 0, .int .u8 0, .int .u8 0, .int .u8 0, .int .u8 0, .int .i64 0, .bool false, .int .i64 0] 33)).alloc (.cells #[.slice none 0 0, .int .u8 0, .int .u8 0, .int .u8 0, .int .u8 0, .int .u8 0, .int .u8 0, .int .u8 0, .int .u8 0, .int .i64 0, .bool false, .int .i64 0] 33)) (w.heap.size + 1) 0 (dvC (.slice (some ⟨B, 0, none⟩) n cap) ds pr st tk).toArray.toList = W2 := by rw [← HV1.out]; exact HW2.out.symm
  rw [hW2']
  clear hW2' T3 d1
  go_upto_region 3 with (at_builtin; refine wpList_append_own _ rfl _ _ 30 rfl (w.heap.size + 2) 5 i0 (.int .u8 0) 1 1 Tryd.underlying30 hi iz0 iz1 iz2 rfl (by decide) _ _ _ rfl HO.out ⟨B, 0, none⟩ n cap (zs.map (Value.int .u8)) rfl HL.out HN.out HONE.out (by unfold maxLen; omega) (by omega) HBW.out ?_; rintro v' w4 hown' hgrow -; have x3 := A3.out.grown' hgrow (owns_lt HO.out (by omega)); have c3 : w4.cell? ⟨(w.heap.size + 1), 0, none⟩ = some (.slice (some ⟨B, 0, none⟩) n cap) := x3.cell 0; have f3 := x3.frozen 0; have OWN := hid hown'; obtain ⟨ga, na, ca, hva⟩ : ∃ a n c, v' = .slice a n c := (by rcases hown'.2 with ⟨h0, _⟩ | ⟨g9, c9, u9, h0, _⟩; exact ⟨_, _, _, h0⟩; exact ⟨_, _, _, h0⟩); have GRW := hid hgrow; clear hown' hgrow; subst hva)
  have hgrow := GRW.out
  have ow := OWN.out
  rw [Nat.zero_add, List.nil_append] at ow
  obtain rfl : na = n := by
    rcases ow.2 with ⟨h0, h1⟩ | ⟨g9, c9, u9, h0, _⟩
    · injection h0 with h2 h3 h4; omega
    · injection h0
  have oB := OwnB.of_owns ow (by have := HNN.out; have := HZ.out; omega)
  have x2 := A2.out.grown' hgrow (owns_lt HO.out (by omega))
  have bel4 : Below w.heap.size w w4 := AB.out.grown hgrow (by simp; have := HS2.out; omega) (fun k e => by have := (HO.out.lt k e).1; omega)
  obtain ⟨W5, hW5⟩ : ∃ X, X = w4.setCell ⟨(w.heap.size + 1), 0, none⟩ (.slice ga na ca) := ⟨_, rfl⟩
  have z3 : Row W5 (w.heap.size + 1) 33 (dvC (.slice ga na ca) ds pr st tk) := by rw [hW5]; exact x3.set 0 _
  have z2 : Row W5 w.heap.size 33 dvZ := by rw [hW5]; exact x2.other (by show w.heap.size + 1 ≠ w.heap.size; omega) _
  have zB : OwnB W5 (w.heap.size + 2) (.slice ga na ca) zs := by rw [hW5]; exact OwnB.of_owns (owns_set ow (by show w.heap.size + 1 < w.heap.size + 2; omega) _) (by have := HNN.out; have := HZ.out; omega)
  have bel5 : Below w.heap.size w W5 := by rw [hW5]; exact bel4.setCell (p := ⟨(w.heap.size + 1), 0, none⟩) (by show w.heap.size ≤ w.heap.size + 1; omega) _
  rw [← hW5]
  have T2 := z2.thereO 0 12 (by rw [dvZ_len]; omega)
  clear hW5 x3 x2 bel4 oB ow hgrow c3 f3
  go_wp2_with (first | ((with_reducible refine wpList_load_row rfl 33 _ rfl (w.heap.size + 1) ?_ 33 (dvC (.slice ga na ca) ds pr st tk).toArray (0, 0) _ ?_ Tryd.underlying33 ?_ ?_ ?_); rfl; exact z3; rfl; exact hID) | ((with_reducible refine wpList_store_mid rfl 33 _ _ rfl w.heap.size 0 (dvC (.slice ga na ca) ds pr st tk).toArray ?_ ?_ ?_ ?_ (all_oneCell_toArray (dvC_one _ _ _ _ _ _ _)) ?_); rfl; rfl; exact T2; exact hID))
  have n2 : Row (W5.setCells w.heap.size 0 (dvC (.slice ga na ca) ds pr st tk)) w.heap.size 33 (dvC (.slice ga na ca) ds pr st tk) := z2.setAll (by rw [dvC_len, dvZ_len])
  exact bodyPost_ret (v := .agg (dvC (.slice ga na ca) ds pr st tk).toArray) (results_c (p := 2) (fn := Tryd.f43) rfl _ _ _ _ _ _ rfl n2 Tryd.underlying33 rfl hID) rfl ⟨ga, ca, rfl, (zB.setO z2 (by decide) _ _).lowb (by omega), below_setCellsD (dvC (.slice ga na ca) ds pr st tk) 0 _ bel5 (Nat.le_refl _)⟩

end Go.Proofs.YthifegbmpmialaaDoor

namespace Go.Proofs.YthifegbmpmialaaDoor
open Go.RowKit
theorem i64_and255 (n : Int) : bits .and .i64 n 255 = n % 256 := by
  have h127 : (BitVec.ofInt 64 255).toNat = 2 ^ 8 - 1 := by decide
  have key : (BitVec.ofInt 64 n &&& BitVec.ofInt 64 255).toNat = (n % ((2 ^ 64 : Nat) : Int)).toNat % 2 ^ 8 := by
    rw [BitVec.toNat_and, BitVec.toNat_ofInt, h127, Nat.and_two_pow_sub_one_eq_mod]
  show IntKind.i64.wrap ((BitVec.ofInt 64 n &&& BitVec.ofInt 64 255).toNat : Nat) = n % 256
  rw [key, IntKind.wrap_i64]
  omega
theorem oct_cells (w : World) (d0 d1 d2 d3 d4 d5 d6 d7 : Int) (k : Nat) (hk : k < 8) : (w.alloc (.cells #[.int .u8 d0, .int .u8 d1, .int .u8 d2, .int .u8 d3, .int .u8 d4, .int .u8 d5, .int .u8 d6, .int .u8 d7] 31)).cell? ⟨w.heap.size, k, none⟩ = some (.int .u8 (([d0, d1, d2, d3, d4, d5, d6, d7] : List Int)[k]?.getD 0)) := by
  have r := (Row.new w 31 [.int .u8 d0, .int .u8 d1, .int .u8 d2, .int .u8 d3, .int .u8 d4, .int .u8 d5, .int .u8 d6, .int .u8 d7]).cell k
  rw [r]
  match k, hk with
  | 0, _ | 1, _ | 2, _ | 3, _ | 4, _ | 5, _ | 6, _ | 7, _ => rfl
/-- what four bytes of the number make of the check -/
def chN (n : Int) : Int := (IntKind.u16.wrap (IntKind.u16.wrap (IntKind.u16.wrap (IntKind.u16.wrap (IntKind.u16.wrap (IntKind.u16.wrap ((259 + n % 256) * 259) + n / 256 % 256) * 259) + n / 65536 % 256) * 259) + n / 16777216 % 256))
theorem chN_spec (n : Int) : (IntKind.u16.wrap (IntKind.u16.wrap (IntKind.u16.wrap (IntKind.u16.wrap (IntKind.u16.wrap (IntKind.u16.wrap (IntKind.u16.wrap (259 + IntKind.u16.wrap (bits BinOp.and IntKind.i64 n 255)) * 259) + IntKind.u16.wrap (bits BinOp.and IntKind.i64 (n / 256) 255)) * 259) + IntKind.u16.wrap (bits BinOp.and IntKind.i64 (n / 65536) 255)) * 259) + IntKind.u16.wrap (bits BinOp.and IntKind.i64 (n / 16777216) 255))) = chN n := by
  simp only [i64_and255, chN, IntKind.wrap_u16]
  omega
/-- what the first k digits make of it -/
def chD (c : Int) (ds : List Int) : Nat → Int
  | 0 => c
  | k + 1 => IntKind.u16.wrap (IntKind.u16.wrap (chD c ds k * 259) + ds[k]?.getD 0)
theorem chD_succ (c : Int) (ds : List Int) (k : Nat) : chD c ds (k + 1) = IntKind.u16.wrap (IntKind.u16.wrap (chD c ds k * 259) + ds[k]?.getD 0) := rfl
theorem u16_bd (x : Int) : 0 ≤ IntKind.u16.wrap x ∧ IntKind.u16.wrap x ≤ 65535 := by
  rw [IntKind.wrap_u16]
  omega
theorem chN_bd (n : Int) : 0 ≤ chN n ∧ chN n ≤ 65535 := u16_bd _
theorem chD_bd (c : Int) (ds : List Int) (k : Nat) (h : 0 ≤ c ∧ c ≤ 65535) : 0 ≤ chD c ds k ∧ chD c ds k ≤ 65535 := by
  cases k with
  | zero => exact h
  | succ k => rw [chD_succ]; exact u16_bd _
/-- the check of a ticket -/
def chk (n : Int) (ds : List Int) : Int := chD (chN n) ds 8
set_option maxRecDepth 100000 in
set_option maxHeartbeats 4000000 in
theorem checkOf_any (n : Int) (d0 d1 d2 d3 d4 d5 d6 d7 : Int) (w : World) (hn : -9223372036854775808 ≤ n ∧ n ≤ 9223372036854775807) (ho : Oct d0 d1 d2 d3 d4 d5 d6 d7) :
    Calls Tryd.prog 70 #[.int .i64 n, .agg #[.int .u8 d0, .int .u8 d1, .int .u8 d2, .int .u8 d3, .int .u8 d4, .int .u8 d5, .int .u8 d6, .int .u8 d7]] w fun e w' => e = .returned (.int .u16 (chk n [d0, d1, d2, d3, d4, d5, d6, d7])) ∧ Below w.heap.size w w' := by
  have hO := hid (fun k hk => oct_bd ho k hk)
  clear ho
  go_enter Tryd.func70, Tryd.ntmps70
  go_wp2
  refine wp_loop_rounds 5 ?_
  iterate 5 (rw [rounds_succ]; go_wp2)
  go_loop [5, 22] (fun c i => ∃ k : Nat, k ≤ 8 ∧ i = .int .i64 k ∧ c = .int .u16 (chD (chN n) [d0, d1, d2, d3, d4, d5, d6, d7] k)) (fun _ i => 8 - (intOf i).toNat)
  case atStart => exact ⟨0, Nat.zero_le _, rfl, rfl⟩
  case round =>
    obtain ⟨k, hk, rfl, rfl⟩ := hrel
    by_cases hlt : k < 8
    · have hix := fun w => index_oct d0 d1 d2 d3 d4 d5 d6 d7 k hlt w
      have hdb := hO.out k hlt
      have HC := hid (chD_succ (chN n) [d0, d1, d2, d3, d4, d5, d6, d7] k)
      have hcb := chD_bd (chN n) [d0, d1, d2, d3, d4, d5, d6, d7] k (chN_bd n)
      obtain ⟨d, hd⟩ : ∃ d, d = ([d0, d1, d2, d3, d4, d5, d6, d7] : List Int)[k]?.getD 0 := ⟨_, rfl⟩
      rw [← hd] at hdb HC
      simp only [← hd] at hix
      clear hd
      obtain ⟨c, hc⟩ : ∃ c, c = chD (chN n) [d0, d1, d2, d3, d4, d5, d6, d7] k := ⟨_, rfl⟩
      rw [← hc] at HC hcb ⊢
      clear hc
      go_wp2
      go_round
      case rel => exact ⟨k + 1, by omega, by go_num, by rw [HC.out]⟩
      case measure => simp [intOf]; omega
    · obtain rfl : k = 8 := by omega
      go_wp2
      go_ret
      exact ⟨rfl, (Below.refl _ _).alloc (Nat.le_refl _) _⟩
set_option maxRecDepth 100000 in
set_option maxHeartbeats 4000000 in
theorem l07Check_any (n : Int) (d0 d1 d2 d3 d4 d5 d6 d7 : Int) (w : World) (hn : -9223372036854775808 ≤ n ∧ n ≤ 9223372036854775807) (ho : Oct d0 d1 d2 d3 d4 d5 d6 d7) :
    Calls Tryd.prog 66 #[.int .i64 n, .agg #[.int .u8 d0, .int .u8 d1, .int .u8 d2, .int .u8 d3, .int .u8 d4, .int .u8 d5, .int .u8 d6, .int .u8 d7]] w fun e w' => e = .returned (.int .u16 (chk n [d0, d1, d2, d3, d4, d5, d6, d7])) ∧ Below w.heap.size w w' := by
  have hO := hid (fun k hk => oct_bd ho k hk)
  clear ho
  go_enter Tryd.func66, Tryd.ntmps66
  go_wp2
  refine wp_loop_rounds 5 ?_
  iterate 5 (rw [rounds_succ]; go_wp2)
  go_loop [5, 7] (fun c i => ∃ k : Nat, k ≤ 8 ∧ i = .int .i64 k ∧ c = .int .u16 (chD (chN n) [d0, d1, d2, d3, d4, d5, d6, d7] k)) (fun _ i => 8 - (intOf i).toNat)
  case atStart => exact ⟨0, Nat.zero_le _, rfl, by rw [chN_spec]; rfl⟩
  case round =>
    obtain ⟨k, hk, rfl, rfl⟩ := hrel
    by_cases hlt : k < 8
    · have hix := oct_cells w d0 d1 d2 d3 d4 d5 d6 d7 k hlt
      have hdb := hO.out k hlt
      have HC := hid (chD_succ (chN n) [d0, d1, d2, d3, d4, d5, d6, d7] k)
      have hcb := chD_bd (chN n) [d0, d1, d2, d3, d4, d5, d6, d7] k (chN_bd n)
      obtain ⟨d, hd⟩ : ∃ d, d = ([d0, d1, d2, d3, d4, d5, d6, d7] : List Int)[k]?.getD 0 := ⟨_, rfl⟩
      rw [← hd] at hdb HC
      simp only [← hd] at hix
      clear hd
      obtain ⟨c, hc⟩ : ∃ c, c = chD (chN n) [d0, d1, d2, d3, d4, d5, d6, d7] k := ⟨_, rfl⟩
      rw [← hc] at HC hcb ⊢
      clear hc
      go_wp2
      go_round
      case rel => exact ⟨k + 1, by omega, by go_num, by rw [HC.out]⟩
      case measure => simp [intOf]; omega
    · obtain rfl : k = 8 := by omega
      go_wp2
      go_ret
      exact ⟨rfl, (Below.refl _ _).alloc (Nat.le_refl _) _⟩
/-- the check of a ticket, with a code -/
def chkR (zs ds : List Int) (n : Int) : Int × Int := if okV zs ds then (if 1 ≤ n ∧ n ≤ 1000000 then (chk n ds, 0) else (0, 2)) else (0, 1)
theorem chkR_no {zs ds : List Int} {n : Int} (h : okV zs ds = false) : chkR zs ds n = (0, 1) := by simp [chkR, h]
theorem chkR_range {zs ds : List Int} {n : Int} (h : okV zs ds = true) (k : ¬ (1 ≤ n ∧ n ≤ 1000000)) : chkR zs ds n = (0, 2) := by rw [chkR, if_pos h, if_neg k]
theorem chkR_yes {zs ds : List Int} {n : Int} (h : okV zs ds = true) (k : 1 ≤ n ∧ n ≤ 1000000) : chkR zs ds n = (chk n ds, 0) := by rw [chkR, if_pos h, if_pos k]
end Go.Proofs.YthifegbmpmialaaDoor

namespace Go.Proofs.YthifegbmpmialaaDoor
open Go.RowKit
set_option linter.unusedVariables false
set_option linter.unusedSimpArgs false
theorem op_append_own {P : Program} (w : World) {o : Oper} {a : Act} {Q : Exit → Act → World → Prop} {K : Act → World → Prop}
    (s x : Operand) (t : TypeId) (hop : o.op = Op.call { callee := Callee.builtin Builtin.append, args := #[s, x], argTypes := #[t, t] })
    (base : Nat) (e : TypeId) (i : TypeInfo) (z : Value) (size bytes : Nat) (h1 : P.underlying t = some (.slice e)) (h2 : P.info? e = some i) (h3 : i.zero = some z) (h4 : i.size = size) (h5 : i.bytes = bytes) (h6 : z.cells.size = size) (h7 : 0 < size)
    (v : Value) (k : Nat) (xs : List Value) (hs : a.eval s = v) (hown : w.ownsRow base e size v k xs) (ad : Addr) (m c : Nat) (news : List Value) (hx : a.eval x = .slice (some ad) m c) (hn : news.length = m * size)
    (hc : ∀ j u, news[j]? = some u → w.cell? (ad.add j) = some u) (h1c : ∀ u ∈ news, u.oneCell' = true) (b1 : k + m ≤ maxLen) (b2 : (k + m) * bytes ≤ 140737488355328) (b3 : base ≤ w.heap.size)
    (hK : ∀ v' w', w'.ownsRow base e size v' (k + m) (xs ++ news) → w.grownBy w' v.ownBlock → K (a.put o.dst v') w') :
    Oper.wp P o a w K Q := by
  obtain ⟨v', w', hrun, r1, r2, r3⟩ := run_append_own (P := P) w base t o.type e i z size bytes h1 h2 h3 h4 h5 h6 h7 v k xs hown ad m c news hn hc h1c b1 b2 b3
  unfold Oper.wp
  simp [execOp, hop, resolve, invoke, builtin, hs, hx, hrun, Result.andThen]
  exact hK v' w' r1 r2
theorem results_cttt {fn : Func} {P : Program} {p q r s : Tmp} {ty : TypeId} (h : fn.results = #[.cell p ty, .tmp q, .tmp r, .tmp s]) (tmps : Array Value) (w : World) (g : Nat) (t : TypeId) (cs : Array Value) (d : TypeDesc) (v1 v2 v3 : Value)
    (hp : tmps.getD p undef = .pointer (some ⟨g, 0, none⟩)) (hq : tmps.getD q undef = v1) (hr : tmps.getD r undef = v2) (hs : tmps.getD s undef = v3) (hg : w.heap[g]? = some (.cells cs t (0, 0)))
    (hu : P.underlying ty = some d) (hd : (match d with | .struct _ | .array _ _ => true | _ => false) = true) (hi : (P.info? ty).map (·.size) = some cs.size) :
    (results fn tmps).run P w = .ok (.tuple #[.agg cs, v1, v2, v3]) w := by
  have hp' : tmps[p]?.getD undef = .pointer (some ⟨g, 0, none⟩) := by simpa using hp
  have hq' : tmps[q]?.getD undef = v1 := by simpa using hq
  have hr' : tmps[r]?.getD undef = v2 := by simpa using hr
  have hs' : tmps[s]?.getD undef = v3 := by simpa using hs
  simp [results, h, hp', hq', hr', hs', asAddr, run_loadVar_row w g t ty cs (0, 0) d hg hu hd hi]
theorem owns_ne {w : World} {base size n g : Nat} {e e' : TypeId} {v : Value} {xs ys : List Value} (h : w.ownsRow base e size v n xs) (hr : Row w g e' ys) (hne : e ≠ e') : some g ≠ v.ownBlock := fun he => by
  rcases h.2 with ⟨rfl, _⟩ | ⟨g', cap, cur, rfl, h2, h3, _⟩
  · cases he
  · have : g = g' := Option.some.inj he
    subst this
    rw [hr] at h3
    simp only [Option.some.injEq, Obj.cells.injEq] at h3
    exact hne h3.2.1.symm
/-- what another owner's block does not touch -/
theorem owns_grown {W W' : World} {base size n base2 size2 n2 : Nat} {e e2 : TypeId} {v v2 : Value} {xs xs2 : List Value} (h : W.ownsRow base e size v n xs) (h2 : W.ownsRow base2 e2 size2 v2 n2 xs2) (hne : e2 ≠ e) (hg : W.grownBy W' v2.ownBlock) : W'.ownsRow base e size v n xs := by
  refine ⟨h.1, ?_⟩
  rcases h.2 with h0 | ⟨g, cap, cur, e1, e3, e4, e5⟩
  · exact .inl h0
  · have hr : Row W g e cur.toList := by unfold Row; rw [e4]
    exact .inr ⟨g, cap, cur, e1, e3, (hr.grown' hg (owns_ne h2 hr hne)), e5⟩
theorem Tryd.infoTkD : (Tryd.prog.info? 52).map (fun i => (i.zero, i.size, i.bytes)) = some (some (.agg #[.int .i64 0, .int .u8 0, .int .u8 0, .int .u8 0, .int .u8 0, .int .u8 0, .int .u8 0, .int .u8 0, .int .u8 0, .int .u16 0]), 10, 24) := by kernel_rfl
/-- a ticket's cells -/
def tkC (m : Int) (ds : List Int) (c : Int) : List Value := [.int .i64 m, .int .u8 (dg ds 0), .int .u8 (dg ds 1), .int .u8 (dg ds 2), .int .u8 (dg ds 3), .int .u8 (dg ds 4), .int .u8 (dg ds 5), .int .u8 (dg ds 6), .int .u8 (dg ds 7), .int .u16 c]
theorem tkC_len (m : Int) (ds : List Int) (c : Int) : (tkC m ds c).length = 10 := rfl
theorem tkC_one (m : Int) (ds : List Int) (c : Int) : ∀ v ∈ tkC m ds c, v.oneCell' = true := by
  intro v hv
  simp only [tkC, List.mem_cons, List.not_mem_nil, or_false] at hv
  rcases hv with rfl | rfl | rfl | rfl | rfl | rfl | rfl | rfl | rfl | rfl <;> rfl
theorem tkFold (m : Int) (ds : List Int) (c : Int) : List.foldl (fun (cs : Array Value) (x : Value × Nat) => cs.setIfInBounds x.snd x.fst) #[.int .i64 0, .int .u8 0, .int .u8 0, .int .u8 0, .int .u8 0, .int .u8 0, .int .u8 0, .int .u8 0, .int .u8 0, .int .u16 0] (tkC m ds c).zipIdx = (tkC m ds c).toArray := by
  have h := foldSet (tkC m ds c) [.int .i64 0, .int .u8 0, .int .u8 0, .int .u8 0, .int .u8 0, .int .u8 0, .int .u8 0, .int .u8 0, .int .u8 0, .int .u16 0] 0 rfl
  simpa using h
def tkP (zs : List Int) (S : DS) (js : List (Int × Int)) (j : Nat) : List Value :=
  if ak js j = 5 then tkC (stF (szL zs) S js (j + 1)).2.2.2 (dgL zs (stF (szL zs) S js (j + 1)).1) (chk (stF (szL zs) S js (j + 1)).2.2.2 (dgL zs (stF (szL zs) S js (j + 1)).1)) else []
def tkN (js : List (Int × Int)) : Nat → Nat
  | 0 => 0
  | k + 1 => tkN js k + (if ak js k = 5 then 1 else 0)
theorem tkN_le (js : List (Int × Int)) : ∀ k, tkN js k ≤ k
  | 0 => Nat.le_refl _
  | k + 1 => by have := tkN_le js k; rw [tkN]; split <;> omega
def tkL (zs : List Int) (S : DS) (js : List (Int × Int)) (k : Nat) : List Value := ((List.range k).map (tkP zs S js)).flatten
theorem tkL_zero (zs : List Int) (S : DS) (js : List (Int × Int)) : tkL zs S js 0 = [] := rfl
theorem tkL_succ (zs : List Int) (S : DS) (js : List (Int × Int)) (k : Nat) : tkL zs S js (k + 1) = tkL zs S js k ++ tkP zs S js k := by simp [tkL, List.range_succ]
/-- the code behind k acts -/
def cde (z : Int) (S : DS) (js : List (Int × Int)) : Nat → Int
  | 0 => 0
  | k + 1 => cdF z S js k
theorem dgs8 (zs : List Int) (v : Int) : [dg (dgL zs v) 0, dg (dgL zs v) 1, dg (dgL zs v) 2, dg (dgL zs v) 3, dg (dgL zs v) 4, dg (dgL zs v) 5, dg (dgL zs v) 6, dg (dgL zs v) 7] = dgL zs v := dg8 _ (dgL_len zs v)
theorem chk_dg (zs : List Int) (m v : Int) (h : okL zs = true) (w : World) (hm : -9223372036854775808 ≤ m ∧ m ≤ 9223372036854775807) :
    Calls Tryd.prog 66 #[.int .i64 m, .agg (diC (dgL zs v)).toArray] w fun e w' => e = .returned (.int .u16 (chk m (dgL zs v))) ∧ Below w.heap.size w w' := by
  have h1 := l07Check_any m (dg (dgL zs v) 0) (dg (dgL zs v) 1) (dg (dgL zs v) 2) (dg (dgL zs v) 3) (dg (dgL zs v) 4) (dg (dgL zs v) 5) (dg (dgL zs v) 6) (dg (dgL zs v) 7) w hm (dgL_octD zs v h)
  rw [dgs8] at h1
  exact h1
theorem OwnB.ltg {w : World} {base n cp : Nat} {a : Option Addr} {zs : List Int} (h : OwnB w base (.slice a n cp) zs) (hz : 1 ≤ zs.length) : ∀ g, a = some ⟨g, 0, none⟩ → g < w.heap.size := by
  intro g hg
  obtain ⟨oa, oc, ov, _, h0 | ⟨g', rest, oe, og, r⟩⟩ := h
  · rw [h0] at hz; simp at hz
  · injection ov with ov1 ov2 ov3
    rw [← ov1, hg] at oe
    injection oe with oe
    injection oe with oe
    rw [oe]; exact r.lt
/-- what l07Run gives -/
def RunR (zs : List Int) (S : DS) (js : List (Int × Int)) (N : Nat) (c : Int) (w : World) (e : Ending) (w' : World) : Prop :=
  ((c = 0 ∧ ∃ g cp rest nv tv bn bt, e = .returned (.tuple #[.agg (dvS (.slice (some ⟨g, 0, none⟩) zs.length cp) zs (stF (szL zs) S js N)).toArray, nv, tv, .int .i64 0]) ∧ w.heap.size ≤ g ∧ Row w' g 5 (zs.map (Value.int .u8) ++ rest) ∧ w.heap.size ≤ bn ∧ w'.ownsRow bn 87 11 nv N (ntL (szL zs) zs S js N) ∧ w.heap.size ≤ bt ∧ w'.ownsRow bt 52 10 tv (tkN js N) (tkL zs S js N)) ∨
   (c ≠ 0 ∧ ∃ x1 x2, e = .returned (.tuple #[.agg dvZ.toArray, .slice (some x1) 0 0, .slice (some x2) 0 0, .int .i64 c]))) ∧ Below w.heap.size w w'
def RunNo (c : Int) (w : World) (e : Ending) (w' : World) : Prop :=
  ∃ x1 x2, e = .returned (.tuple #[.agg dvZ.toArray, .slice (some x1) 0 0, .slice (some x2) 0 0, .int .i64 c]) ∧ Below w.heap.size w w'
theorem RunNo.run {zs : List Int} {S : DS} {js : List (Int × Int)} {N : Nat} {c : Int} {w w' : World} {e : Ending} (hc : c ≠ 0) (h : RunNo c w e w') : RunR zs S js N c w e w' := by
  obtain ⟨x1, x2, he, hB⟩ := h
  exact ⟨.inr ⟨hc, x1, x2, he⟩, hB⟩
set_option maxRecDepth 100000 in
set_option maxHeartbeats 1500000 in
theorem l07Run_no (D B n cap : Nat) (zs ds : List Int) (v pr : Int) (st : Bool) (tk : Int) (b N acap : Nat) (js : List (Int × Int)) (w : World) (hD : Row w D 33 (dvC (.slice (some ⟨B, 0, none⟩) n cap) ds pr st tk)) (hS : Stk w B zs) (hn : n = zs.length) (c : Int) (hc : c ≠ 0)
    (hK : ∀ W, Below w.heap.size w W → Calls Tryd.prog 65 #[.pointer (some ⟨D, 0, none⟩), .slice (some ⟨b, 0, none⟩) N acap] W (GivesB W (.int .i64 c))) :
    Calls Tryd.prog 51 #[.pointer (some ⟨D, 0, none⟩), .slice (some ⟨b, 0, none⟩) N acap] w (RunNo c w) := by
  have hID : (Tryd.prog.info? 33).map (·.size) = some 12 := Tryd.infoDev
  obtain ⟨V, hV⟩ : ∃ V, V = w.alloc (.cells #[.slice none 0 0, .int .u8 0, .int .u8 0, .int .u8 0, .int .u8 0, .int .u8 0, .int .u8 0, .int .u8 0, .int .u8 0, .int .i64 0, .bool false, .int .i64 0] 33) := ⟨_, rfl⟩
  have bV : Below w.heap.size w V := by rw [hV]; exact (Below.refl _ _).alloc (Nat.le_refl _) _
  have r4 : Row V w.heap.size 33 dvZ := by rw [hV]; exact Row.new w _ dvZ
  have sV : V.heap.size = w.heap.size + 1 := by rw [hV]; simp
  have HC := hid (l07Copy_gen D B n cap zs ds pr st tk V (hD.below bV hD.lt) (hS.below bV hS.1) hn)
  have HV := hid hV; have HK := hid hK; have BV := hid bV; have R4 := hid r4; have HSV := hid sV
  have dcb : (c == 0) = false := by simpa using hc
  have dcn : (c != 0) = true := by simpa using hc
  clear hV hK bV r4 hD hS hn sV hc
  go_enter Tryd.func51, Tryd.ntmps51
  go_upto_region 1 with fail
  rw [← HV.out]
  go_wp2_with fail
  refine HC.out.mono ?_
  rintro e w1 ⟨ga, cp, rfl, OB, hB1⟩
  have r4 := R4.out.below hB1 R4.out.lt
  have hb1 := BV.out.trans (hB1.mono BV.out.size)
  have HLG := hid OB.ltg
  have lw := HSV.out
  have z1 := hB1.size
  obtain ⟨V2, hV2⟩ : ∃ X, X = (w1.alloc (.cells #[.slice none 0 0, .int .u8 0, .int .u8 0, .int .u8 0, .int .u8 0, .int .u8 0, .int .u8 0, .int .u8 0, .int .u8 0, .int .i64 0, .bool false, .int .i64 0] 33)) := ⟨_, rfl⟩
  have r8 : Row V2 w1.heap.size 33 dvZ := by rw [hV2]; exact Row.new w1 _ dvZ
  have a2 : Below w1.heap.size w1 V2 := by rw [hV2]; exact (Below.refl _ _).alloc (Nat.le_refl _) _
  have r4b := r4.below a2 r4.lt
  have OB2 := OB.keep a2
  have b2 : Below w.heap.size w V2 := hb1.trans (a2.mono hb1.size)
  have T8 := r8.thereO 0 12 (by rw [dvZ_len]; omega)
  rw [hV2] at T8
  obtain ⟨W3, hW3⟩ : ∃ X, X = V2.setCells w1.heap.size 0 (dvC (.slice ga n cp) ds pr st tk) := ⟨_, rfl⟩
  have r4c : Row W3 w.heap.size 33 dvZ := by rw [hW3]; exact r4b.setCellsO (by omega) _ _
  have r8c : Row W3 w1.heap.size 33 (dvC (.slice ga n cp) ds pr st tk) := by rw [hW3]; exact r8.setAll (by rw [dvC_len, dvZ_len])
  have OB3 : OwnB W3 (w.heap.size + 1) (.slice ga n cp) zs := by rw [hW3, ← lw]; exact OB2.setO r8 (by decide) _ _
  have b3 : Below w.heap.size w W3 := by rw [hW3]; exact below_setCellsD _ 0 _ b2 (by omega)
  have HW3 := hid hW3; have R4C := hid r4c; have B3 := hid b3; have HV2 := hid hV2; have R8C := hid r8c; have OB3h := hid OB3
  have HL1 := hid (show w.heap.size + 1 ≤ w1.heap.size by omega)
  clear hW3 r4c b3 hV2 r8 r4b b2 r4 hb1 hB1 lw z1 a2 OB OB2 r8c OB3
  go_upto_region 2 with ((with_reducible refine wpList_store_mid rfl 33 _ _ rfl w1.heap.size 0 (dvC (.slice ga n cp) ds pr st tk).toArray ?_ ?_ ?_ ?_ (all_oneCell_toArray (dvC_one _ _ _ _ _ _ _)) ?_); rfl; rfl; exact T8; exact hID)
  rw [show World.setCells (w1.alloc (.cells #[.slice none 0 0, .int .u8 0, .int .u8 0, .int .u8 0, .int .u8 0, .int .u8 0, .int .u8 0, .int .u8 0, .int .u8 0, .int .i64 0, .bool false, .int .i64 0] 33)) w1.heap.size 0 (dvC (.slice ga n cp) ds pr st tk).toArray.toList = W3 by rw [← HV2.out]; exact HW3.out.symm]
  clear T8
  obtain ⟨D8, hD8⟩ : ∃ y, y = w1.heap.size := ⟨_, rfl⟩
  rw [← hD8]
  have HD8 := hid hD8
  clear hD8
  obtain ⟨W4, hW4⟩ : ∃ X, X = (W3.alloc (.cells #[] 87)).alloc (.cells #[] 52) := ⟨_, rfl⟩
  have a4 : Below W3.heap.size W3 W4 := by rw [hW4]; exact ((Below.refl _ _).alloc (Nat.le_refl _) _).alloc (by simp) _
  have r4d := R4C.out.below a4 R4C.out.lt
  have r8d := R8C.out.below a4 R8C.out.lt
  have OB4 := OB3h.out.keep a4
  have b4 := B3.out.trans (a4.mono B3.out.size)
  rw [← HD8.out] at r8d
  have HK4 := hid (HK.out W4 b4)
  have HW4 := hid hW4; have B4 := hid b4; have R4D := hid r4d
  clear hW4 b4 r4d r8d OB4 a4
  go_wp2_with fail
  rw [← HW4.out]
  refine HK4.out.mono ?_
  rintro e w5 ⟨rfl, hB5⟩
  have r5 := R4D.out.below hB5 R4D.out.lt
  have b5 := B4.out.trans (hB5.mono B4.out.size)
  obtain ⟨W6, hW6⟩ : ∃ X, X = (w5.alloc (.cells #[] 87)).alloc (.cells #[] 52) := ⟨_, rfl⟩
  have a6 : Below w5.heap.size w5 W6 := by rw [hW6]; exact ((Below.refl _ _).alloc (Nat.le_refl _) _).alloc (by simp) _
  have r6 := r5.below a6 r5.lt
  have b6 := b5.trans (a6.mono b5.size)
  have T6 := r6.thereO 0 12 (by rw [dvZ_len]; omega)
  have n6 := r6.setAll (ys := dvZ) rfl
  have nb := below_setCellsD (g := w.heap.size) dvZ 0 _ b6 (Nat.le_refl _)
  rw [hW6] at T6 n6 nb
  have N6 := hid n6; have NB := hid nb
  clear n6 nb hW6 a6 r6 b6
  clear r5 b5 hB5
  go_wp2_with fail
  go_loopw [12, 13] (fun d i wr => d = .int .i64 c ∧ (∃ k : Nat, k = 0 ∧ i = .int .i64 k) ∧ wr = w5) (fun _ _ _ => 0)
  case atStart => exact ⟨rfl, ⟨0, rfl, rfl⟩, rfl⟩
  case round =>
    obtain ⟨rfl, ⟨k, hk, rfl⟩, hwr⟩ := hrel
    subst hwr
    clear hk
    by_cases hN : (k : Int) < (N : Int)
    · go_wp2_with ((with_reducible refine wpList_store_mid rfl 33 _ _ rfl w.heap.size 0 dvZ.toArray ?_ ?_ ?_ ?_ dvZ_oneT ?_); rfl; rfl; exact T6; exact hID)
      exact bodyPost_ret (v := .tuple #[.agg dvZ.toArray, .slice (some ⟨wr.heap.size, 0, none⟩) 0 0, .slice (some ⟨wr.heap.size + 1, 0, none⟩) 0 0, .int .i64 c]) (results_cttt (p := 4) (q := 5) (r := 6) (s := 7) (fn := Tryd.f51) rfl _ _ _ _ _ _ _ _ _ rfl rfl rfl rfl N6.out Tryd.underlying33 rfl hID) rfl ⟨⟨wr.heap.size, 0, none⟩, ⟨wr.heap.size + 1, 0, none⟩, rfl, NB.out⟩
    · go_wp2_with ((with_reducible refine wpList_store_mid rfl 33 _ _ rfl w.heap.size 0 dvZ.toArray ?_ ?_ ?_ ?_ dvZ_oneT ?_); rfl; rfl; exact T6; exact hID)
      exact bodyPost_ret (v := .tuple #[.agg dvZ.toArray, .slice (some ⟨wr.heap.size, 0, none⟩) 0 0, .slice (some ⟨wr.heap.size + 1, 0, none⟩) 0 0, .int .i64 c]) (results_cttt (p := 4) (q := 5) (r := 6) (s := 7) (fn := Tryd.f51) rfl _ _ _ _ _ _ _ _ _ rfl rfl rfl rfl N6.out Tryd.underlying33 rfl hID) rfl ⟨⟨wr.heap.size, 0, none⟩, ⟨wr.heap.size + 1, 0, none⟩, rfl, NB.out⟩
end Go.Proofs.YthifegbmpmialaaDoor

namespace Go.Proofs.YthifegbmpmialaaDoor
open Go.RowKit
set_option linter.unusedVariables false
set_option linter.unusedSimpArgs false
set_option maxRecDepth 100000 in
set_option maxHeartbeats 2500000 in
theorem l07Run_go (D B n cap : Nat) (zs ds0 : List Int) (v pr : Int) (st : Bool) (tk : Int) (b N acap : Nat) (js : List (Int × Int)) (w : World) (hD : Row w D 33 (dvC (.slice (some ⟨B, 0, none⟩) n cap) (dgL zs v) pr st tk)) (hS : Stk w B zs) (hn : n = zs.length) (hz255 : ∀ z ∈ zs, 0 ≤ z ∧ z ≤ 255) (hzL : okL zs = true) (hok : okS (szL zs) (v, pr, st, tk)) (hA : Ast w b js) (hN : N = js.length) (hb : okAs js = true) (h60 : N ≤ 60)
    (hK : ∀ W, Below w.heap.size w W → Calls Tryd.prog 65 #[.pointer (some ⟨D, 0, none⟩), .slice (some ⟨b, 0, none⟩) N acap] W (GivesB W (.int .i64 0))) :
    Calls Tryd.prog 51 #[.pointer (some ⟨D, 0, none⟩), .slice (some ⟨b, 0, none⟩) N acap] w (RunR zs (v, pr, st, tk) js N (rpE (szL zs) (v, pr, st, tk) js N) w) := by
  obtain ⟨hz1, h8, hin, z1, z2⟩ := okL_out hzL
  have hID : (Tryd.prog.info? 33).map (·.size) = some 12 := Tryd.infoDev
  obtain ⟨V, hV⟩ : ∃ V, V = w.alloc (.cells #[.slice none 0 0, .int .u8 0, .int .u8 0, .int .u8 0, .int .u8 0, .int .u8 0, .int .u8 0, .int .u8 0, .int .u8 0, .int .i64 0, .bool false, .int .i64 0] 33) := ⟨_, rfl⟩
  have bV : Below w.heap.size w V := by rw [hV]; exact (Below.refl _ _).alloc (Nat.le_refl _) _
  have r4 : Row V w.heap.size 33 dvZ := by rw [hV]; exact Row.new w _ dvZ
  have sV : V.heap.size = w.heap.size + 1 := by rw [hV]; simp
  have HC := hid (l07Copy_gen D B n cap zs (dgL zs v) pr st tk V (hD.below bV hD.lt) (hS.below bV hS.1) hn)
  have HV := hid hV; have HK := hid hK; have BV := hid bV; have R4 := hid r4; have HSV := hid sV
  obtain ⟨i0, hi, iz0, iz1, iz2⟩ := info_parts Tryd.infoNt
  obtain ⟨j0, hj, jz0, jz1, jz2⟩ := info_parts Tryd.infoTkD
  have HZ := hid (show 1 ≤ (szL zs) ∧ (szL zs) ≤ 1000000000000 from ⟨z1, z2⟩)
  have HOK := hid hok; have HTO := hid (okAs_out hb); have HA := hid hA; have HNN := hid hN; have HZL := hid hzL; have HZ2 := hid hz255; have HL := hid hn; have HZ1 := hid hz1; have H8 := hid h8
  clear hV hK bV r4 hD hS hn sV hok hb hA hN hzL hz255 hz1 h8 hin z1 z2
  go_enter Tryd.func51, Tryd.ntmps51
  go_upto_region 1 with fail
  rw [← HV.out]
  go_wp2_with fail
  refine HC.out.mono ?_
  rintro e w1 ⟨ga, cp, rfl, OB, hB1⟩
  have r4 := R4.out.below hB1 R4.out.lt
  have hb1 := BV.out.trans (hB1.mono BV.out.size)
  have HLG := hid OB.ltg
  have lw := HSV.out
  have z1 := hB1.size
  obtain ⟨V2, hV2⟩ : ∃ X, X = (w1.alloc (.cells #[.slice none 0 0, .int .u8 0, .int .u8 0, .int .u8 0, .int .u8 0, .int .u8 0, .int .u8 0, .int .u8 0, .int .u8 0, .int .i64 0, .bool false, .int .i64 0] 33)) := ⟨_, rfl⟩
  have r8 : Row V2 w1.heap.size 33 dvZ := by rw [hV2]; exact Row.new w1 _ dvZ
  have a2 : Below w1.heap.size w1 V2 := by rw [hV2]; exact (Below.refl _ _).alloc (Nat.le_refl _) _
  have r4b := r4.below a2 r4.lt
  have OB2 := OB.keep a2
  have b2 : Below w.heap.size w V2 := hb1.trans (a2.mono hb1.size)
  have T8 := r8.thereO 0 12 (by rw [dvZ_len]; omega)
  rw [hV2] at T8
  obtain ⟨W3, hW3⟩ : ∃ X, X = V2.setCells w1.heap.size 0 (dvC (.slice ga n cp) (dgL zs v) pr st tk) := ⟨_, rfl⟩
  have r4c : Row W3 w.heap.size 33 dvZ := by rw [hW3]; exact r4b.setCellsO (by omega) _ _
  have r8c : Row W3 w1.heap.size 33 (dvC (.slice ga n cp) (dgL zs v) pr st tk) := by rw [hW3]; exact r8.setAll (by rw [dvC_len, dvZ_len])
  have OB3 : OwnB W3 (w.heap.size + 1) (.slice ga n cp) zs := by rw [hW3, ← lw]; exact OB2.setO r8 (by decide) _ _
  have b3 : Below w.heap.size w W3 := by rw [hW3]; exact below_setCellsD _ 0 _ b2 (by omega)
  have HW3 := hid hW3; have R4C := hid r4c; have B3 := hid b3; have HV2 := hid hV2; have R8C := hid r8c; have OB3h := hid OB3
  have HL1 := hid (show w.heap.size + 1 ≤ w1.heap.size by omega)
  clear hW3 r4c b3 hV2 r8 r4b b2 r4 hb1 hB1 lw z1 a2 OB OB2 r8c OB3
  go_upto_region 2 with ((with_reducible refine wpList_store_mid rfl 33 _ _ rfl w1.heap.size 0 (dvC (.slice ga n cp) (dgL zs v) pr st tk).toArray ?_ ?_ ?_ ?_ (all_oneCell_toArray (dvC_one _ _ _ _ _ _ _)) ?_); rfl; rfl; exact T8; exact hID)
  rw [show World.setCells (w1.alloc (.cells #[.slice none 0 0, .int .u8 0, .int .u8 0, .int .u8 0, .int .u8 0, .int .u8 0, .int .u8 0, .int .u8 0, .int .u8 0, .int .i64 0, .bool false, .int .i64 0] 33)) w1.heap.size 0 (dvC (.slice ga n cp) (dgL zs v) pr st tk).toArray.toList = W3 by rw [← HV2.out]; exact HW3.out.symm]
  clear T8
  obtain ⟨D8, hD8⟩ : ∃ y, y = w1.heap.size := ⟨_, rfl⟩
  rw [← hD8]
  have HD8 := hid hD8
  clear hD8
  obtain ⟨W4, hW4⟩ : ∃ X, X = (W3.alloc (.cells #[] 87)).alloc (.cells #[] 52) := ⟨_, rfl⟩
  have a4 : Below W3.heap.size W3 W4 := by rw [hW4]; exact ((Below.refl _ _).alloc (Nat.le_refl _) _).alloc (by simp) _
  have r4d := R4C.out.below a4 R4C.out.lt
  have r8d := R8C.out.below a4 R8C.out.lt
  have OB4 := OB3h.out.keep a4
  have b4 := B3.out.trans (a4.mono B3.out.size)
  rw [← HD8.out] at r8d
  have HK4 := hid (HK.out W4 b4)
  obtain ⟨bn, hbn⟩ : ∃ y, y = W3.heap.size := ⟨_, rfl⟩
  have oN4 : W4.ownsRow bn 87 11 (.slice (some ⟨W3.heap.size, 0, none⟩) 0 0) 0 [] := by
    rw [hW4, hbn]
    exact owns_belowP (World.ownsRow_made W3 #[] 0 (Nat.le_refl _) (by decide) rfl) ((Below.refl _ _).alloc (Nat.le_refl _) _)
  have oT4 : W4.ownsRow (bn + 1) 52 10 (.slice (some ⟨W3.heap.size + 1, 0, none⟩) 0 0) 0 [] := by
    have h := World.ownsRow_made (e := 52) (size := 10) (base := bn + 1) (W3.alloc (.cells #[] 87)) #[] 0 (by simp [hbn]) (by decide) rfl
    simp only [World.size_alloc] at h
    rw [hW4]; exact h
  obtain ⟨bt, hbt⟩ : ∃ y, y = bn + 1 := ⟨_, rfl⟩
  rw [← hbt] at oT4
  have OB4' := OB4
  obtain ⟨oa, oc, ov, _, h0 | ⟨g, rest, oe, og, rG4⟩⟩ := OB4
  · exact absurd h0 (by intro h; have := HZ1.out; rw [h] at this; simp at this)
  injection ov with ov1 ov2 ov3
  subst oe; subst ov1; subst ov2; subst ov3
  have HG1 := hid (show w.heap.size + 1 ≤ g from og)
  have HBN := hid (show w.heap.size ≤ bn ∧ w.heap.size ≤ bt ∧ bn ≤ W4.heap.size ∧ bt ≤ W4.heap.size by rw [hbt, hbn]; have := a4.size; have := B3.out.size; rw [hW4]; simp; omega)
  have HW4 := hid hW4; have B4 := hid b4; have R4D := hid r4d; have R8D := hid r8d; have RG4 := hid rG4; have ON4 := hid oN4; have OT4 := hid oT4
  have hgD : D8 ≠ g := fun he => by subst he; exact absurd (row_type r8d rG4) (by decide)
  have HGD := hid hgD
  have HBNW := hid (show w.heap.size < bn ∧ w.heap.size < bt by have := R8C.out.lt; have := HL1.out; rw [hbt, hbn]; omega)
  have HGLT := hid (show g < D8 by rw [HD8.out]; exact HLG.out HZ1.out g rfl)
  have HBND := hid (show D8 < bn ∧ D8 < bt by have := R8C.out.lt; rw [hbt, hbn, HD8.out]; omega)
  have HBA8 := hid (show b < D8 by have := HA.out.1; have := HL1.out; rw [HD8.out]; omega)
  have H8D := hid (show w.heap.size + 1 ≤ D8 by rw [HD8.out]; exact HL1.out)
  clear hW4 b4 r4d r8d rG4 OB4' oN4 oT4 hbn hbt og a4 hgD
  go_wp2_with fail
  rw [← HW4.out]
  refine HK4.out.mono ?_
  rintro e w5 ⟨rfl, hB5⟩
  have R5 := hid (R4D.out.below hB5 R4D.out.lt); have RD5 := hid (R8D.out.below hB5 R8D.out.lt); have RG5 := hid (RG4.out.below hB5 RG4.out.lt); have ON5 := hid (owns_belowP ON4.out hB5); have OT5 := hid (owns_belowP OT4.out hB5)
  have B5 := hid (B4.out.trans (hB5.mono B4.out.size))
  have HS5 := hid (show bn ≤ w5.heap.size ∧ bt ≤ w5.heap.size by have := hB5.size; have := HBN.out; omega)
  clear hB5
  go_wp2_with fail
  go_loopw [9, 10, 11, 12, 13] (fun nt tt sm cd i wr => ∃ (k : Nat) (nv tv : Value), k ≤ N ∧ i = .int .i64 k ∧ nt = nv ∧ tt = tv ∧ sm = .int .i64 (suF (szL zs) (v, pr, st, tk) js k) ∧ cd = .int .i64 (cde (szL zs) (v, pr, st, tk) js k) ∧ okRp (szL zs) (v, pr, st, tk) js (k - 1) ∧ Row wr w.heap.size 33 dvZ ∧ Row wr D8 33 (dvS (.slice (some ⟨g, 0, none⟩) zs.length cp) zs (stF (szL zs) (v, pr, st, tk) js k)) ∧ Row wr g 5 (zs.map (Value.int .u8) ++ rest) ∧ wr.ownsRow bn 87 11 nv k (ntL (szL zs) zs (v, pr, st, tk) js k) ∧ wr.ownsRow bt 52 10 tv (tkN js k) (tkL zs (v, pr, st, tk) js k) ∧ Below w.heap.size w wr ∧ bn ≤ wr.heap.size ∧ bt ≤ wr.heap.size) (fun _ _ _ _ i _ => N - (intOf i).toNat)
  case atStart => exact ⟨0, _, _, Nat.zero_le _, rfl, rfl, rfl, rfl, rfl, okRp_zero _ _ _, R5.out, RD5.out, RG5.out, ON5.out, OT5.out, B5.out, HS5.out⟩
  case round =>
    obtain ⟨k, nv, tv0, hk, rfl, hnv, htv, rfl, rfl, hokR, rZ, rD, rG, oN, oT, bW, hs1, hs2⟩ := hrel
    replace hnv := hnv.symm; replace htv := htv.symm; subst hnv; subst htv
    have k0 : (0 : Int) ≤ (k : Int) := by omega
    have HOKR := hid hokR
    clear hokR
    by_cases hcd : cde (szL zs) (v, pr, st, tk) js k = 0
    · have hokK : okRp (szL zs) (v, pr, st, tk) js k := by
        cases k with
        | zero => exact HOKR.out
        | succ m => exact okRp_succ HOKR.out hcd
      rw [hcd]
      have HCD0 := hid hcd
      clear hcd
      by_cases hkn : k < N
      · have hkl := hid (show k < js.length by have := HNN.out; omega)
        obtain ⟨x0, x1⟩ := (HA.out.below bW HA.out.1).2.1 k hkl.out
        have hst := stF_ok HZ.out.1 HOK.out HTO.out k (by have := hkl.out; omega)
        have hsb := suF_bd HZ.out.1 HOK.out HTO.out k (by have := hkl.out; omega)
        have hsc := suF_bd HZ.out.1 HOK.out HTO.out (k + 1) (by have := hkl.out; omega)
        have hst2 := stF_ok HZ.out.1 HOK.out HTO.out (k + 1) (by have := hkl.out; omega)
        have ha := HTO.out k hkl.out
        have eN := ntL_succ (szL zs) zs (v, pr, st, tk) js k
        have eT := tkL_succ zs (v, pr, st, tk) js k
        have eTN : tkN js (k + 1) = tkN js k + (if ak js k = 5 then 1 else 0) := rfl
        have hTN := tkN_le js k
        have eS : suF (szL zs) (v, pr, st, tk) js (k + 1) = suF (szL zs) (v, pr, st, tk) js k + loF (szL zs) (v, pr, st, tk) js k := rfl
        have eC : cde (szL zs) (v, pr, st, tk) js (k + 1) = cdF (szL zs) (v, pr, st, tk) js k := rfl
        have e1 : cdF (szL zs) (v, pr, st, tk) js k = (actF (szL zs) (stF (szL zs) (v, pr, st, tk) js k) (ak js k) (an js k)).1 := rfl
        have e2 : stF (szL zs) (v, pr, st, tk) js (k + 1) = (actF (szL zs) (stF (szL zs) (v, pr, st, tk) js k) (ak js k) (an js k)).2.1 := rfl
        have e3 : loF (szL zs) (v, pr, st, tk) js k = (actF (szL zs) (stF (szL zs) (v, pr, st, tk) js k) (ak js k) (an js k)).2.2 := rfl
        unfold ntP at eN
        unfold tkP at eT
        obtain ⟨⟨sv, spr, sst, stk⟩, hS⟩ : ∃ T : DS, stF (szL zs) (v, pr, st, tk) js k = T := ⟨_, rfl⟩
        obtain ⟨p, hp⟩ : ∃ y, ak js k = y := ⟨_, rfl⟩
        obtain ⟨q, hq⟩ : ∃ y, an js k = y := ⟨_, rfl⟩
        rw [hS] at rD hst e1 e2 e3
        rw [hp] at x0 ha e1 e2 e3 eN eT eTN
        rw [hq] at x1 ha e1 e2 e3 eN
        obtain ⟨⟨c, ⟨tv, tpr, tst, ttk⟩, l⟩, hAct⟩ : ∃ T : Int × DS × Int, actF (szL zs) (sv, spr, sst, stk) p q = T := ⟨_, rfl⟩
        have HDO := hid (do07_any p D8 g zs.length cp zs sv spr sst stk q)
        rw [hAct] at e1 e2 e3 HDO
        simp only at e1 e2 e3 HDO
        rw [e1] at eC
        rw [e2] at hst2 eT
        rw [e2, e3] at eN
        rw [e3] at eS
        rw [eS] at hsc
        obtain ⟨sm, hsm⟩ : ∃ y, suF (szL zs) (v, pr, st, tk) js k = y := ⟨_, rfl⟩
        rw [hsm] at hsb hsc eS ⊢
        replace rD : Row wr D8 33 (dvC (.slice (some ⟨g, 0, none⟩) zs.length cp) (dgL zs sv) spr sst stk) := rD
        have k1 : (k : Int) < (N : Int) := by omega
        have w1' : IntKind.i64.wrap ((k : Int) + 1) = (k : Int) + 1 := IntWalk.i64_in _ (by omega)
        have wl : IntKind.i64.wrap (sm + l) = sm + l := IntWalk.i64_in _ (by omega)
        have HP := hid hp; have HQ := hid hq; have HSM := hid hsm; have HE2 := hid e2; have HEN := hid eN; have HES := hid eS; have HCD := hid eC; have HST := hid hst; have HHA := hid ha
        have HTK := hid (show -9223372036854775808 ≤ ttk ∧ ttk ≤ 9223372036854775807 by have h4 := hst2.2.2.2; simp only at h4; omega)
        have HOK1 := hid (show okRp (szL zs) (v, pr, st, tk) js (k + 1 - 1) from hokK)
        have sS2 := rowB_stk rG HZ2.out (by have := H8.out; omega)
        have sL8 := H8D.out
        have HLGD := hid (show g < D8 from HGLT.out)
        have HBD := hid (show D8 < bn ∧ D8 < bt from HBND.out)
        have HBA := hid (show b < D8 from HBA8.out)
        clear hokK hst hst2 ha hS hp hq hAct e1 e2 e3 eN eS eC hsm hsc hsb
        have HDX := hid (fun (W : World) (a1 : Row W D8 33 (dvC (.slice (some ⟨g, 0, none⟩) zs.length cp) (dgL zs sv) spr sst stk)) (a2 : Stk W g zs) (hlt : g < D8) => HDO.out W hlt a1 a2 trivial HZL.out HST.out HHA.out)
        go_wp2_with fail
        refine (HDX.out wr rD sS2 HLGD.out).mono ?_
        rintro e w6 ⟨rfl, hD6, hB6, hK6⟩
        have hz6 := hB6.size
        replace rZ := rZ.keepD (by omega) hK6
        replace rG := rG.keepD (fun h => HGD.out h.symm) hK6
        have hbnD := HBD.out
        replace oN := owns_keepD oN (by omega) hK6
        replace oT := owns_keepD oT (by omega) hK6
        replace bW := bW.trans (hB6.mono (by omega))
        replace x0 := (hB6.cell (p := ⟨b, k * 2, none⟩) (by show b < D8; have := HBA.out; omega)).trans x0
        replace x1 := (hB6.cell (p := ⟨b, k * 2 + 1, none⟩) (by show b < D8; have := HBA.out; omega)).trans x1
        change Row w6 D8 33 (dvC (.slice (some ⟨g, 0, none⟩) zs.length cp) (dgL zs tv) tpr tst ttk) at hD6
        have rD := hD6
        clear hD6 hB6 hK6 sS2
        go_upto_region 12 with fail
        refine wp_region_held (S := fun W' : World => (W'.cell? ⟨b, k * 2, none⟩ = some (.int .i8 p) ∧ W'.cell? ⟨b, k * 2 + 1, none⟩ = some (.int .i64 q)) ∧ Row W' D8 33 (dvC (.slice (some ⟨g, 0, none⟩) zs.length cp) (dgL zs tv) tpr tst ttk)) (by kernel_rfl) ?_
        change wpAnyH _ _ _ _ _ _ _ _ (World.drew _)
        obtain ⟨W0, hW0⟩ : ∃ X, X = World.drew w6 := ⟨_, rfl⟩
        have hD0 : Below w6.heap.size w6 W0 := by rw [hW0]; exact (Below.refl _ _).drew
        replace rZ := rZ.below hD0 rZ.lt; replace rD := rD.below hD0 rD.lt; replace rG := rG.below hD0 rG.lt
        replace oN := owns_belowP oN hD0; replace oT := owns_belowP oT hD0; replace bW := bW.trans (hD0.mono bW.size)
        replace x0 := (hD0.cell (p := ⟨b, k * 2, none⟩) (cell_ltE x0)).trans x0; replace x1 := (hD0.cell (p := ⟨b, k * 2 + 1, none⟩) (cell_ltE x1)).trans x1
        have z60 := hD0.size
        rw [← hW0]
        clear hW0 hD0
        have hS0 : (fun W' : World => (W'.cell? ⟨b, k * 2, none⟩ = some (.int .i8 p) ∧ W'.cell? ⟨b, k * 2 + 1, none⟩ = some (.int .i64 q)) ∧ Row W' D8 33 (dvC (.slice (some ⟨g, 0, none⟩) zs.length cp) (dgL zs tv) tpr tst ttk)) W0 := ⟨⟨x0, x1⟩, rD⟩
        refine wpAnyH_takeD (some 45) (i := 0) (v := ?_) rfl rfl (by kernel_rfl) (by kernel_rfl) (by kernel_rfl) (fun _ _ _ h => h) (.inl ⟨by kernel_rfl, ?_⟩) hS0 ?_
        rotate_left
        · intro w' hw'; clear hw'; go_simp; try with_reducible rfl
        try simp only [Act.put, List.setIfInBounds_toArray, List.set_cons_zero, List.set_cons_succ]
        refine wpAnyH_takeD (some 46) (i := 1) (v := ?_) rfl rfl (by kernel_rfl) (by kernel_rfl) (by kernel_rfl) (fun _ _ _ h => h) (.inl ⟨by kernel_rfl, ?_⟩) hS0 ?_
        rotate_left
        · intro w' hw'; clear hw'; go_simp; try with_reducible rfl
        try simp only [Act.put, List.setIfInBounds_toArray, List.set_cons_zero, List.set_cons_succ]
        refine wpAnyH_takeD (some 47) (i := 2) (v := ?_) rfl rfl (by kernel_rfl) (by kernel_rfl) (by kernel_rfl) (fun _ _ _ h => h) (.inl ⟨by kernel_rfl, ?_⟩) hS0 ?_
        rotate_left
        · intro w' hw'; clear hw'; go_simp; try with_reducible rfl
        try simp only [Act.put, List.setIfInBounds_toArray, List.set_cons_zero, List.set_cons_succ]
        refine wpAnyH_takeD (some 48) (i := 3) (v := ?_) rfl rfl (by kernel_rfl) (by kernel_rfl) (by kernel_rfl) (fun _ _ _ h => h) (.inl ⟨by kernel_rfl, ?_⟩) hS0 ?_
        rotate_left
        · intro w' hw'; clear hw'; go_simp; try with_reducible rfl
        try simp only [Act.put, List.setIfInBounds_toArray, List.set_cons_zero, List.set_cons_succ]
        refine wpAnyH_takeD (some 49) (i := 4) (v := ?_) rfl rfl (by kernel_rfl) (by kernel_rfl) (by kernel_rfl) (fun _ _ _ h => h) (.inl ⟨by kernel_rfl, ?_⟩) hS0 ?_
        rotate_left
        · intro w' hw'; have y0 := hw'.1.1; have y1 := hw'.1.2; clear hw'; go_simp; try with_reducible rfl
        try simp only [Act.put, List.setIfInBounds_toArray, List.set_cons_zero, List.set_cons_succ]
        refine wpAnyH_takeD (some 50) (i := 5) (v := ?_) rfl rfl (by kernel_rfl) (by kernel_rfl) (by kernel_rfl) (fun _ _ _ h => h) (.inl ⟨by kernel_rfl, ?_⟩) hS0 ?_
        rotate_left
        · intro w' hw'; clear hw'; go_simp; try with_reducible rfl
        try simp only [Act.put, List.setIfInBounds_toArray, List.set_cons_zero, List.set_cons_succ]
        refine wpAnyH_takeD (some 51) (i := 6) (v := .agg (diC (dgL zs tv)).toArray) rfl rfl (by kernel_rfl) (by kernel_rfl) (by kernel_rfl) (fun _ _ _ h => h) (.inl ⟨by kernel_rfl, ?_⟩) hS0 ?_
        · intro w' hw'; exact exec_load_mid 31 _ rfl D8 1 rfl (diC (dgL zs tv)) _ (dvC_range hw'.2) Tryd.underlying31 rfl Tryd.infoDigQ
        try simp only [Act.put, List.setIfInBounds_toArray, List.set_cons_zero, List.set_cons_succ]
        refine wpAnyH_takeD (some 52) (i := 7) (v := ?_) rfl rfl (by kernel_rfl) (by kernel_rfl) (by kernel_rfl) (fun _ _ _ h => h) (.inl ⟨by kernel_rfl, ?_⟩) hS0 ?_
        rotate_left
        · intro w' hw'; clear hw'; go_simp; try with_reducible rfl
        try simp only [Act.put, List.setIfInBounds_toArray, List.set_cons_zero, List.set_cons_succ]
        refine wpAnyH_takeD (some 53) (i := 8) (v := .agg (ntC p q (dgL zs tv) l).toArray) rfl rfl (by kernel_rfl) (by kernel_rfl) (by kernel_rfl) (fun _ _ _ h => h) (.inl ⟨by kernel_rfl, ?_⟩) hS0 ?_
        · intro w' _; kernel_rfl
        try simp only [Act.put, List.setIfInBounds_toArray, List.set_cons_zero, List.set_cons_succ]
        refine wpAnyH_all (rs := [9]) (by kernel_rfl) (by simp) ?_
        intro i hi; simp only [List.mem_cons, List.not_mem_nil, or_false] at hi
        subst hi
        refine wpOp_step rfl (fun K hK => ?_)
        have rn := Row.new W0 87 (ntC p q (dgL zs tv) l)
        have hnl : (ntC p q (dgL zs tv) l).length = 11 := ntC_len _ _ _ _
        go_simp
        try rw [ntFold]
        have hA : Below W0.heap.size W0 (W0.alloc (.cells (ntC p q (dgL zs tv) l).toArray 87)) := (Below.refl _ _).alloc (Nat.le_refl _) _
        replace rZ := rZ.below hA rZ.lt; replace rD := rD.below hA rD.lt; replace rG := rG.below hA rG.lt
        replace oN := owns_belowP oN hA; replace oT := owns_belowP oT hA; replace bW := bW.trans (hA.mono bW.size)
        replace x0 := (hA.cell (p := ⟨b, k * 2, none⟩) (cell_ltE x0)).trans x0; replace x1 := (hA.cell (p := ⟨b, k * 2 + 1, none⟩) (cell_ltE x1)).trans x1
        have hSa : (fun W' : World => (W'.cell? ⟨b, k * 2, none⟩ = some (.int .i8 p) ∧ W'.cell? ⟨b, k * 2 + 1, none⟩ = some (.int .i64 q)) ∧ Row W' D8 33 (dvC (.slice (some ⟨g, 0, none⟩) zs.length cp) (dgL zs tv) tpr tst ttk)) (W0.alloc (.cells (ntC p q (dgL zs tv) l).toArray 87)) := ⟨⟨x0, x1⟩, rD⟩
        have z61 := hA.size
        refine hK _ _ ⟨hSa, ?_⟩
        try simp only [Act.put, List.setIfInBounds_toArray, List.set_cons_zero, List.set_cons_succ]
        obtain ⟨G, hG⟩ : ∃ y, W0.heap.size = y := ⟨_, rfl⟩
        obtain ⟨XA, hXA⟩ : ∃ y, W0.alloc (.cells (ntC p q (dgL zs tv) l).toArray 87) = y := ⟨_, rfl⟩
        rw [hXA] at rZ rD rG oN oT bW hSa rn x0 x1 z61 ⊢
        rw [hG] at rn z61 z60 ⊢
        clear hXA hG hA hK K hS0 hnl
        have nc := cellsAt rn
        refine wpAnyH_all (rs := [10]) (by kernel_rfl) (by simp) ?_
        intro i hi; simp only [List.mem_cons, List.not_mem_nil, or_false] at hi
        subst hi
        refine wpOp_step rfl (fun K hK => ?_)
        rw [if_pos (by kernel_rfl)]
        refine op_append_own XA _ _ 62 rfl bn 87 i0 (.agg #[.int .i8 0, .int .i64 0, .int .u8 0, .int .u8 0, .int .u8 0, .int .u8 0, .int .u8 0, .int .u8 0, .int .u8 0, .int .u8 0, .int .i64 0]) 11 32 Tryd.underlying62 hi iz0 iz1 iz2 rfl (by decide) nv _ _ rfl oN ⟨G, 0, none⟩ 1 1 (ntC p q (dgL zs tv) l) rfl rfl nc (ntC_one _ _ _ _) (by unfold maxLen; omega) (by omega) (by omega) ?_
        intro nv' w7 hown' hgrow
        have q1 := rZ.grown' hgrow (owns_ne oN rZ (by decide)); have q2 := rD.grown' hgrow (owns_ne oN rD (by decide)); have q3 := rG.grown' hgrow (owns_ne oN rG (by decide))
        have qT := owns_grown oT oN (by decide) hgrow
        have bel : Below w.heap.size w w7 := bW.grown hgrow (by omega) (fun kk e => by have := (oN.lt kk e).1; omega)
        have qA := HA.out.below bel HA.out.1
        obtain ⟨y0, y1⟩ := qA.2.1 k hkl.out
        rw [HP.out] at y0; rw [HQ.out] at y1
        have z7 : G ≤ w7.heap.size := by have := hgrow.size; omega
        clear rZ rD rG oT bW x0 x1 nc rn qA
        have hS7 : (fun W' : World => (W'.cell? ⟨b, k * 2, none⟩ = some (.int .i8 p) ∧ W'.cell? ⟨b, k * 2 + 1, none⟩ = some (.int .i64 q)) ∧ Row W' D8 33 (dvC (.slice (some ⟨g, 0, none⟩) zs.length cp) (dgL zs tv) tpr tst ttk)) w7 := ⟨⟨y0, y1⟩, q2⟩
        refine hK _ _ ⟨hS7, ?_⟩
        try simp only [Act.put, List.setIfInBounds_toArray, List.set_cons_zero, List.set_cons_succ]
        clear hK K hSa oN hgrow z61
        refine wpAnyH_takeD (some 9) (i := 11) (v := ?_) rfl rfl (by kernel_rfl) (by kernel_rfl) (by kernel_rfl) (fun _ _ _ h => h) (.inl ⟨by kernel_rfl, ?_⟩) hS7 ?_
        rotate_left
        · intro w' hw'; clear hw'; go_simp; try with_reducible rfl
        try simp only [Act.put, List.setIfInBounds_toArray, List.set_cons_zero, List.set_cons_succ]
        refine wpAnyH_done (by kernel_rfl) ?_ _
        clear hS7
        by_cases p5 : p = 5
        · subst p5
          have HTKN := hid (show tkN js (k + 1) = tkN js k + 1 by rw [eTN, if_pos rfl])
          rw [if_pos rfl] at eT
          go_upto_region 14 with fail
          clear y0 y1
          refine wp_region_held (S := fun W' : World => Row W' D8 33 (dvC (.slice (some ⟨g, 0, none⟩) zs.length cp) (dgL zs tv) tpr tst ttk)) (by kernel_rfl) ?_
          change wpAnyH _ _ _ _ _ _ _ _ (World.drew _)
          obtain ⟨W0, hW0⟩ : ∃ X, X = World.drew w7 := ⟨_, rfl⟩
          have hD0 : Below w7.heap.size w7 W0 := by rw [hW0]; exact (Below.refl _ _).drew
          replace q1 := q1.below hD0 q1.lt; replace q2 := q2.below hD0 q2.lt; replace q3 := q3.below hD0 q3.lt
          replace hown' := owns_belowP hown' hD0; replace qT := owns_belowP qT hD0; replace bel := bel.trans (hD0.mono bel.size)
          have z62 := hD0.size
          rw [← hW0]
          clear hW0 hD0
          have hS0 : (fun W' : World => Row W' D8 33 (dvC (.slice (some ⟨g, 0, none⟩) zs.length cp) (dgL zs tv) tpr tst ttk)) W0 := q2
          refine wpAnyH_takeD (some 62) (i := 0) (v := ?_) rfl rfl (by kernel_rfl) (by kernel_rfl) (by kernel_rfl) (fun _ _ _ h => h) (.inl ⟨by kernel_rfl, ?_⟩) hS0 ?_
          rotate_left
          · intro w' hw'; clear hw'; go_simp; try with_reducible rfl
          try simp only [Act.put, List.setIfInBounds_toArray, List.set_cons_zero, List.set_cons_succ]
          refine wpAnyH_takeD (some 63) (i := 1) (v := ?_) rfl rfl (by kernel_rfl) (by kernel_rfl) (by kernel_rfl) (fun _ _ _ h => h) (.inl ⟨by kernel_rfl, ?_⟩) hS0 ?_
          rotate_left
          · intro w' hw'; clear hw'; go_simp; try with_reducible rfl
          try simp only [Act.put, List.setIfInBounds_toArray, List.set_cons_zero, List.set_cons_succ]
          refine wpAnyH_takeD (some 64) (i := 2) (v := ?_) rfl rfl (by kernel_rfl) (by kernel_rfl) (by kernel_rfl) (fun _ _ _ h => h) (.inl ⟨by kernel_rfl, ?_⟩) hS0 ?_
          rotate_left
          · intro w' hw'; have y5 : w'.cell? ⟨D8, 11, none⟩ = some (.int .i64 ttk) := hw'.cell 11; clear hw'; go_simp; try with_reducible rfl
          try simp only [Act.put, List.setIfInBounds_toArray, List.set_cons_zero, List.set_cons_succ]
          refine wpAnyH_takeD (some 65) (i := 3) (v := ?_) rfl rfl (by kernel_rfl) (by kernel_rfl) (by kernel_rfl) (fun _ _ _ h => h) (.inl ⟨by kernel_rfl, ?_⟩) hS0 ?_
          rotate_left
          · intro w' hw'; clear hw'; go_simp; try with_reducible rfl
          try simp only [Act.put, List.setIfInBounds_toArray, List.set_cons_zero, List.set_cons_succ]
          refine wpAnyH_takeD (some 66) (i := 4) (v := .agg (diC (dgL zs tv)).toArray) rfl rfl (by kernel_rfl) (by kernel_rfl) (by kernel_rfl) (fun _ _ _ h => h) (.inl ⟨by kernel_rfl, ?_⟩) hS0 ?_
          · intro w' hw'; exact exec_load_mid 31 _ rfl D8 1 rfl (diC (dgL zs tv)) _ (dvC_range hw') Tryd.underlying31 rfl Tryd.infoDigQ
          try simp only [Act.put, List.setIfInBounds_toArray, List.set_cons_zero, List.set_cons_succ]
          refine wpAnyH_takeD (some 67) (i := 5) (v := ?_) rfl rfl (by kernel_rfl) (by kernel_rfl) (by kernel_rfl) (fun _ _ _ h => h) (.inl ⟨by kernel_rfl, ?_⟩) hS0 ?_
          rotate_left
          · intro w' hw'; clear hw'; go_simp; try with_reducible rfl
          try simp only [Act.put, List.setIfInBounds_toArray, List.set_cons_zero, List.set_cons_succ]
          refine wpAnyH_takeD (some 68) (i := 6) (v := ?_) rfl rfl (by kernel_rfl) (by kernel_rfl) (by kernel_rfl) (fun _ _ _ h => h) (.inl ⟨by kernel_rfl, ?_⟩) hS0 ?_
          rotate_left
          · intro w' hw'; have y5 : w'.cell? ⟨D8, 11, none⟩ = some (.int .i64 ttk) := hw'.cell 11; clear hw'; go_simp; try with_reducible rfl
          try simp only [Act.put, List.setIfInBounds_toArray, List.set_cons_zero, List.set_cons_succ]
          refine wpAnyH_takeD (some 69) (i := 7) (v := ?_) rfl rfl (by kernel_rfl) (by kernel_rfl) (by kernel_rfl) (fun _ _ _ h => h) (.inl ⟨by kernel_rfl, ?_⟩) hS0 ?_
          rotate_left
          · intro w' hw'; clear hw'; go_simp; try with_reducible rfl
          try simp only [Act.put, List.setIfInBounds_toArray, List.set_cons_zero, List.set_cons_succ]
          refine wpAnyH_takeD (some 70) (i := 8) (v := .agg (diC (dgL zs tv)).toArray) rfl rfl (by kernel_rfl) (by kernel_rfl) (by kernel_rfl) (fun _ _ _ h => h) (.inl ⟨by kernel_rfl, ?_⟩) hS0 ?_
          · intro w' hw'; exact exec_load_mid 31 _ rfl D8 1 rfl (diC (dgL zs tv)) _ (dvC_range hw') Tryd.underlying31 rfl Tryd.infoDigQ
          try simp only [Act.put, List.setIfInBounds_toArray, List.set_cons_zero, List.set_cons_succ]
          refine wpAnyH_all (rs := [9]) (by kernel_rfl) (by simp) ?_
          intro i hi; simp only [List.mem_cons, List.not_mem_nil, or_false] at hi
          subst hi
          refine wpOp_step rfl (fun K hK => ?_)
          go_simp
          with_reducible refine (chk_dg zs ttk tv HZL.out W0 HTK.out).mono ?_
          rintro e w8 ⟨rfl, hB8⟩
          replace q1 := q1.below hB8 q1.lt; replace q2 := q2.below hB8 q2.lt; replace q3 := q3.below hB8 q3.lt
          replace hown' := owns_belowP hown' hB8; replace qT := owns_belowP qT hB8; replace bel := bel.trans (hB8.mono bel.size)
          have z63 := hB8.size
          have hS8 : (fun W' : World => Row W' D8 33 (dvC (.slice (some ⟨g, 0, none⟩) zs.length cp) (dgL zs tv) tpr tst ttk)) w8 := q2
          refine hK _ _ ⟨hS8, ?_⟩
          try simp only [Act.put, List.setIfInBounds_toArray, List.set_cons_zero, List.set_cons_succ]
          clear hB8 hK K hS0
          obtain ⟨CH, hCH⟩ : ∃ y, chk ttk (dgL zs tv) = y := ⟨_, rfl⟩
          rw [hCH]
          refine wpAnyH_takeD (some 72) (i := 10) (v := .agg (tkC ttk (dgL zs tv) CH).toArray) rfl rfl (by kernel_rfl) (by kernel_rfl) (by kernel_rfl) (fun _ _ _ h => h) (.inl ⟨by kernel_rfl, ?_⟩) hS8 ?_
          · intro w' _; kernel_rfl
          try simp only [Act.put, List.setIfInBounds_toArray, List.set_cons_zero, List.set_cons_succ]
          refine wpAnyH_all (rs := [11]) (by kernel_rfl) (by simp) ?_
          intro i hi; simp only [List.mem_cons, List.not_mem_nil, or_false] at hi
          subst hi
          refine wpOp_step rfl (fun K hK => ?_)
          have rn := Row.new w8 52 (tkC ttk (dgL zs tv) CH)
          have hnl : (tkC ttk (dgL zs tv) CH).length = 10 := tkC_len _ _ _
          go_simp
          try rw [tkFold]
          have hA : Below w8.heap.size w8 (w8.alloc (.cells (tkC ttk (dgL zs tv) CH).toArray 52)) := (Below.refl _ _).alloc (Nat.le_refl _) _
          replace q1 := q1.below hA q1.lt; replace q2 := q2.below hA q2.lt; replace q3 := q3.below hA q3.lt
          replace hown' := owns_belowP hown' hA; replace qT := owns_belowP qT hA; replace bel := bel.trans (hA.mono bel.size)
          have hSa : (fun W' : World => Row W' D8 33 (dvC (.slice (some ⟨g, 0, none⟩) zs.length cp) (dgL zs tv) tpr tst ttk)) (w8.alloc (.cells (tkC ttk (dgL zs tv) CH).toArray 52)) := q2
          have z64 := hA.size
          refine hK _ _ ⟨hSa, ?_⟩
          try simp only [Act.put, List.setIfInBounds_toArray, List.set_cons_zero, List.set_cons_succ]
          obtain ⟨G2, hG2⟩ : ∃ y, w8.heap.size = y := ⟨_, rfl⟩
          obtain ⟨XB, hXB⟩ : ∃ y, w8.alloc (.cells (tkC ttk (dgL zs tv) CH).toArray 52) = y := ⟨_, rfl⟩
          rw [hXB] at q1 q2 q3 hown' qT bel hSa rn z64 ⊢
          rw [hG2] at rn z64 z63 ⊢
          clear hXB hG2 hA hK K hS8 hnl
          have nc := cellsAt rn
          refine wpAnyH_all (rs := [12]) (by kernel_rfl) (by simp) ?_
          intro i hi; simp only [List.mem_cons, List.not_mem_nil, or_false] at hi
          subst hi
          refine wpOp_step rfl (fun K hK => ?_)
          rw [if_pos (by kernel_rfl)]
          refine op_append_own XB _ _ 57 rfl bt 52 j0 (.agg #[.int .i64 0, .int .u8 0, .int .u8 0, .int .u8 0, .int .u8 0, .int .u8 0, .int .u8 0, .int .u8 0, .int .u8 0, .int .u16 0]) 10 24 Tryd.underlying57 hj jz0 jz1 jz2 rfl (by decide) tv0 _ _ rfl qT ⟨G2, 0, none⟩ 1 1 (tkC ttk (dgL zs tv) CH) rfl rfl nc (tkC_one _ _ _) (by unfold maxLen; omega) (by omega) (by omega) ?_
          intro tv' w9 hownt hgrow
          have u1 := q1.grown' hgrow (owns_ne qT q1 (by decide)); have u2 := q2.grown' hgrow (owns_ne qT q2 (by decide)); have u3 := q3.grown' hgrow (owns_ne qT q3 (by decide))
          have uN := owns_grown hown' qT (by decide) hgrow
          have bel9 : Below w.heap.size w w9 := bel.grown hgrow (by omega) (fun kk e => by have := (qT.lt kk e).1; omega)
          have z9 : w7.heap.size ≤ w9.heap.size := by have := hgrow.size; omega
          have hS9 : (fun W' : World => Row W' D8 33 (dvC (.slice (some ⟨g, 0, none⟩) zs.length cp) (dgL zs tv) tpr tst ttk)) w9 := u2
          refine hK _ _ ⟨hS9, ?_⟩
          try simp only [Act.put, List.setIfInBounds_toArray, List.set_cons_zero, List.set_cons_succ]
          clear hK K hSa qT hown' hgrow z64 nc rn q1 q2 q3 bel
          refine wpAnyH_takeD (some 10) (i := 13) (v := ?_) rfl rfl (by kernel_rfl) (by kernel_rfl) (by kernel_rfl) (fun _ _ _ h => h) (.inl ⟨by kernel_rfl, ?_⟩) hS9 ?_
          rotate_left
          · intro w' hw'; clear hw'; go_simp; try with_reducible rfl
          try simp only [Act.put, List.setIfInBounds_toArray, List.set_cons_zero, List.set_cons_succ]
          refine wpAnyH_done (by kernel_rfl) ?_ _
          clear hS9
          rw [hCH] at eT
          have HTKL := hid eT
          clear eT eTN hCH
          have RN := hid uN; have RT := hid hownt; have R1 := hid u1; have R2 := hid u2; have R3 := hid u3; have RB := hid bel9
          have RSZ : Hid (bn ≤ (World.heap w9).size ∧ bt ≤ (World.heap w9).size) := hid ⟨by omega, by omega⟩
          clear uN hownt u1 u2 u3 bel9
          go_wp2_with fail
          go_roundw
          case rel => exact ⟨k + 1, nv', tv', by omega, by go_num, rfl, rfl, by rw [HES.out], by rw [HCD.out], HOK1.out, R1.out, by rw [HE2.out]; exact R2.out, R3.out, by rw [HEN.out]; exact RN.out, by rw [HTKN.out, HTKL.out]; exact RT.out, RB.out, RSZ.out⟩
          case measure => simp [intOf]; omega
        · have HTKN := hid (show tkN js (k + 1) = tkN js k by rw [eTN, if_neg p5]; rfl)
          rw [if_neg p5, List.append_nil] at eT
          have HTKL := hid eT
          have p5b : (p == 5) = false := by simpa using p5
          clear eT eTN
          go_wp2_with fail
          clear y0 y1
          have RN := hid hown'; have RT := hid qT; have R1 := hid q1; have R2 := hid q2; have R3 := hid q3; have RB := hid bel
          have RSZ : Hid (bn ≤ (World.heap w7).size ∧ bt ≤ (World.heap w7).size) := hid ⟨by omega, by omega⟩
          clear hown' qT q1 q2 q3 bel
          go_wp2_with fail
          go_roundw
          case rel => exact ⟨k + 1, nv', tv0, by omega, by go_num, rfl, rfl, by rw [HES.out], by rw [HCD.out], HOK1.out, R1.out, by rw [HE2.out]; exact R2.out, R3.out, by rw [HEN.out]; exact RN.out, by rw [HTKN.out, HTKL.out]; exact RT.out, RB.out, RSZ.out⟩
          case measure => simp [intOf]; omega
      · obtain rfl : k = N := by omega
        have k1 : ¬ (k : Int) < (k : Int) := by omega
        by_cases hs : 1000000000000 < suF (szL zs) (v, pr, st, tk) js k
        · have hE := rpE_sum hokK hs
          obtain ⟨sm, hsm⟩ : ∃ y, suF (szL zs) (v, pr, st, tk) js k = y := ⟨_, rfl⟩
          rw [hsm] at hs ⊢
          have HE := hid hE
          have RZ := rZ
          clear hokK hE hsm rD rG oN oT hs1 hs2
          obtain ⟨W6, hW6⟩ : ∃ X, X = (wr.alloc (.cells #[] 87)).alloc (.cells #[] 52) := ⟨_, rfl⟩
          have a6 : Below wr.heap.size wr W6 := by rw [hW6]; exact ((Below.refl _ _).alloc (Nat.le_refl _) _).alloc (by simp) _
          have r6 := rZ.below a6 rZ.lt
          have b6 := bW.trans (a6.mono bW.size)
          have T6 := r6.thereO 0 12 (by rw [dvZ_len]; omega)
          have n6 := r6.setAll (ys := dvZ) rfl
          have nb := below_setCellsD (g := w.heap.size) dvZ 0 _ b6 (Nat.le_refl _)
          rw [hW6] at T6 n6 nb
          have N6 := hid n6; have NB := hid nb
          clear n6 nb hW6 a6 r6 b6
          clear rZ RZ bW
          go_wp2_with ((with_reducible refine wpList_store_mid rfl 33 _ _ rfl w.heap.size 0 dvZ.toArray ?_ ?_ ?_ ?_ dvZ_oneT ?_); rfl; rfl; exact T6; exact hID)
          exact bodyPost_ret (v := .tuple #[.agg dvZ.toArray, .slice (some ⟨wr.heap.size, 0, none⟩) 0 0, .slice (some ⟨wr.heap.size + 1, 0, none⟩) 0 0, .int .i64 2]) (results_cttt (p := 4) (q := 5) (r := 6) (s := 7) (fn := Tryd.f51) rfl _ _ _ _ _ _ _ _ _ rfl rfl rfl rfl N6.out Tryd.underlying33 rfl hID) rfl (by rw [HE.out]; exact RunNo.run (by decide) ⟨⟨wr.heap.size, 0, none⟩, ⟨wr.heap.size + 1, 0, none⟩, rfl, NB.out⟩)
        · have hE := rpE_ok hokK hs
          replace rD : Row wr D8 33 (dvC (.slice (some ⟨g, 0, none⟩) zs.length cp) (dgL zs (stF (szL zs) (v, pr, st, tk) js k).1) (stF (szL zs) (v, pr, st, tk) js k).2.1 (stF (szL zs) (v, pr, st, tk) js k).2.2.1 (stF (szL zs) (v, pr, st, tk) js k).2.2.2) := rD
          have hL := hid (show Hid True from hid trivial)
          have T6 := rZ.thereO 0 12 (by rw [dvZ_len]; omega)
          have N4 := hid (rZ.setAll (ys := (dvC (.slice (some ⟨g, 0, none⟩) zs.length cp) (dgL zs (stF (szL zs) (v, pr, st, tk) js k).1) (stF (szL zs) (v, pr, st, tk) js k).2.1 (stF (szL zs) (v, pr, st, tk) js k).2.2.1 (stF (szL zs) (v, pr, st, tk) js k).2.2.2)) rfl)
          have NG := hid (rG.setCellsO (g := w.heap.size) (by have := HG1.out; omega) (dvC (.slice (some ⟨g, 0, none⟩) zs.length cp) (dgL zs (stF (szL zs) (v, pr, st, tk) js k).1) (stF (szL zs) (v, pr, st, tk) js k).2.1 (stF (szL zs) (v, pr, st, tk) js k).2.2.1 (stF (szL zs) (v, pr, st, tk) js k).2.2.2) 0)
          have hbn := HBN.out
          have NN := hid (owns_setCells oN (D := w.heap.size) (by have := HBNW.out; omega) (dvC (.slice (some ⟨g, 0, none⟩) zs.length cp) (dgL zs (stF (szL zs) (v, pr, st, tk) js k).1) (stF (szL zs) (v, pr, st, tk) js k).2.1 (stF (szL zs) (v, pr, st, tk) js k).2.2.1 (stF (szL zs) (v, pr, st, tk) js k).2.2.2) 0)
          have NT := hid (owns_setCells oT (D := w.heap.size) (by have := HBNW.out; omega) (dvC (.slice (some ⟨g, 0, none⟩) zs.length cp) (dgL zs (stF (szL zs) (v, pr, st, tk) js k).1) (stF (szL zs) (v, pr, st, tk) js k).2.1 (stF (szL zs) (v, pr, st, tk) js k).2.2.1 (stF (szL zs) (v, pr, st, tk) js k).2.2.2) 0)
          have NB := hid (below_setCellsD (g := w.heap.size) (dvC (.slice (some ⟨g, 0, none⟩) zs.length cp) (dgL zs (stF (szL zs) (v, pr, st, tk) js k).1) (stF (szL zs) (v, pr, st, tk) js k).2.1 (stF (szL zs) (v, pr, st, tk) js k).2.2.1 (stF (szL zs) (v, pr, st, tk) js k).2.2.2) 0 _ bW (Nat.le_refl _))
          have HBD' := hid hbn
          obtain ⟨sm, hsm⟩ : ∃ y, suF (szL zs) (v, pr, st, tk) js k = y := ⟨_, rfl⟩
          rw [hsm] at hs ⊢
          have HE := hid hE
          clear hokK hE hsm rG oN oT hs1 hs2 bW hbn
          go_wp2_with (first | ((with_reducible refine wpList_load_row rfl 33 _ rfl D8 ?_ 33 (dvC (.slice (some ⟨g, 0, none⟩) zs.length cp) (dgL zs (stF (szL zs) (v, pr, st, tk) js k).1) (stF (szL zs) (v, pr, st, tk) js k).2.1 (stF (szL zs) (v, pr, st, tk) js k).2.2.1 (stF (szL zs) (v, pr, st, tk) js k).2.2.2).toArray (0, 0) _ ?_ Tryd.underlying33 ?_ ?_ ?_); rfl; exact rD; rfl; exact hID) | ((with_reducible refine wpList_store_mid rfl 33 _ _ rfl w.heap.size 0 (dvC (.slice (some ⟨g, 0, none⟩) zs.length cp) (dgL zs (stF (szL zs) (v, pr, st, tk) js k).1) (stF (szL zs) (v, pr, st, tk) js k).2.1 (stF (szL zs) (v, pr, st, tk) js k).2.2.1 (stF (szL zs) (v, pr, st, tk) js k).2.2.2).toArray ?_ ?_ ?_ ?_ (all_oneCell_toArray (dvC_one _ _ _ _ _ _ _)) ?_); rfl; rfl; exact T6; exact hID))
          exact bodyPost_ret (v := .tuple #[.agg (dvC (.slice (some ⟨g, 0, none⟩) zs.length cp) (dgL zs (stF (szL zs) (v, pr, st, tk) js k).1) (stF (szL zs) (v, pr, st, tk) js k).2.1 (stF (szL zs) (v, pr, st, tk) js k).2.2.1 (stF (szL zs) (v, pr, st, tk) js k).2.2.2).toArray, nv, tv0, .int .i64 0]) (results_cttt (p := 4) (q := 5) (r := 6) (s := 7) (fn := Tryd.f51) rfl _ _ _ _ _ _ _ _ _ rfl rfl rfl rfl N4.out Tryd.underlying33 rfl hID) rfl (by rw [HE.out]; exact ⟨.inl ⟨rfl, g, cp, rest, nv, tv0, bn, bt, rfl, by have := HG1.out; omega, NG.out, HBD'.out.1, NN.out, HBD'.out.2.1, NT.out⟩, NB.out⟩)
    · obtain ⟨m, rfl⟩ : ∃ m, k = m + 1 := by
        cases k with
        | zero => exact absurd rfl hcd
        | succ m => exact ⟨m, rfl⟩
      have hE := rpE_err (N := N) (k := m) HOKR.out hcd (by omega)
      obtain ⟨c, hc⟩ : ∃ y, cde (szL zs) (v, pr, st, tk) js (m + 1) = y := ⟨_, rfl⟩
      have HE := hid (show rpE (szL zs) (v, pr, st, tk) js N = c from hE.trans hc)
      rw [hc] at hcd ⊢
      obtain ⟨sm, hsm⟩ : ∃ y, suF (szL zs) (v, pr, st, tk) js (m + 1) = y := ⟨_, rfl⟩
      rw [hsm]
      obtain ⟨kk, hkk⟩ : ∃ y, y = m + 1 := ⟨_, rfl⟩
      have HCD := hid hcd
      have dcb : (c == 0) = false := by simpa using hcd
      have dcn : (c != 0) = true := by simpa using hcd
      have RZ := rZ
      have eI : Value.int .i64 ((m + 1 : Nat) : Int) = Value.int .i64 (kk : Int) := by rw [hkk]
      rw [eI]
      clear hE hc hsm rD rG oN oT hs1 hs2 hcd eI k0 hk
      obtain ⟨W6, hW6⟩ : ∃ X, X = (wr.alloc (.cells #[] 87)).alloc (.cells #[] 52) := ⟨_, rfl⟩
      have a6 : Below wr.heap.size wr W6 := by rw [hW6]; exact ((Below.refl _ _).alloc (Nat.le_refl _) _).alloc (by simp) _
      have r6 := rZ.below a6 rZ.lt
      have b6 := bW.trans (a6.mono bW.size)
      have T6 := r6.thereO 0 12 (by rw [dvZ_len]; omega)
      have n6 := r6.setAll (ys := dvZ) rfl
      have nb := below_setCellsD (g := w.heap.size) dvZ 0 _ b6 (Nat.le_refl _)
      rw [hW6] at T6 n6 nb
      have N6 := hid n6; have NB := hid nb
      clear n6 nb hW6 a6 r6 b6
      clear rZ RZ bW hkk
      by_cases hN : (kk : Int) < (N : Int)
      · go_wp2_with ((with_reducible refine wpList_store_mid rfl 33 _ _ rfl w.heap.size 0 dvZ.toArray ?_ ?_ ?_ ?_ dvZ_oneT ?_); rfl; rfl; exact T6; exact hID)
        exact bodyPost_ret (v := .tuple #[.agg dvZ.toArray, .slice (some ⟨wr.heap.size, 0, none⟩) 0 0, .slice (some ⟨wr.heap.size + 1, 0, none⟩) 0 0, .int .i64 c]) (results_cttt (p := 4) (q := 5) (r := 6) (s := 7) (fn := Tryd.f51) rfl _ _ _ _ _ _ _ _ _ rfl rfl rfl rfl N6.out Tryd.underlying33 rfl hID) rfl (by rw [HE.out]; exact RunNo.run HCD.out ⟨⟨wr.heap.size, 0, none⟩, ⟨wr.heap.size + 1, 0, none⟩, rfl, NB.out⟩)
      · go_wp2_with ((with_reducible refine wpList_store_mid rfl 33 _ _ rfl w.heap.size 0 dvZ.toArray ?_ ?_ ?_ ?_ dvZ_oneT ?_); rfl; rfl; exact T6; exact hID)
        exact bodyPost_ret (v := .tuple #[.agg dvZ.toArray, .slice (some ⟨wr.heap.size, 0, none⟩) 0 0, .slice (some ⟨wr.heap.size + 1, 0, none⟩) 0 0, .int .i64 c]) (results_cttt (p := 4) (q := 5) (r := 6) (s := 7) (fn := Tryd.f51) rfl _ _ _ _ _ _ _ _ _ rfl rfl rfl rfl N6.out Tryd.underlying33 rfl hID) rfl (by rw [HE.out]; exact RunNo.run HCD.out ⟨⟨wr.heap.size, 0, none⟩, ⟨wr.heap.size + 1, 0, none⟩, rfl, NB.out⟩)
end Go.Proofs.YthifegbmpmialaaDoor

namespace Go.Proofs.YthifegbmpmialaaDoor
open Go.RowKit Go.ChangeShapes Go.WideShapes Go.ChangeAt
theorem Row.of_ownsAc {w : World} {base g n cap sz : Nat} {e : TypeId} {xs : List Value} (h : w.ownsRow base e sz (.slice (some ⟨g, 0, none⟩) n cap) n xs) (hn : n = cap) : Row w g e xs := by
  subst hn
  rcases h.2 with ⟨h', _⟩ | ⟨g', cap', cur, h', hb, hg, hnc, hcm, hcs, htake⟩
  · simp at h'
  · simp only [Value.slice.injEq, Option.some.injEq, Addr.mk.injEq, and_true, true_and] at h'
    obtain ⟨rfl, rfl⟩ := h'
    unfold Row
    rw [hg, ← htake, List.take_of_length_le (by simp [hcs])]
/-- what a law is told of a slice of acts that came in -/
def InAc (w : World) (a : Option Addr) (len : Nat) (js : List (Int × Int)) : Prop :=
  js.length = len ∧ (∀ j, j < len → (-128 ≤ ak js j ∧ ak js j ≤ 127) ∧ (-9223372036854775808 ≤ an js j ∧ an js j ≤ 9223372036854775807)) ∧ (len = 0 ∨ ∃ b off, a = some ⟨b, off, none⟩ ∧ b < w.heap.size ∧ ∀ j, j < len → w.cell? ⟨b, off + j * 2, none⟩ = some (.int .i8 (ak js j)) ∧ w.cell? ⟨b, off + j * 2 + 1, none⟩ = some (.int .i64 (an js j)))
theorem InAc.below {w w' : World} {a : Option Addr} {len : Nat} {js : List (Int × Int)} {n : Nat} (h : InAc w a len js) (hb : Below n w w') (hn : w.heap.size ≤ n) : InAc w' a len js := by
  refine ⟨h.1, h.2.1, ?_⟩
  rcases h.2.2 with h0 | ⟨b, off, e, hl, hc⟩
  · exact .inl h0
  · exact .inr ⟨b, off, e, Nat.lt_of_lt_of_le hl hb.size, fun j hj => ⟨(hb.cell (p := ⟨b, off + j * 2, none⟩) (Nat.lt_of_lt_of_le hl hn)).trans (hc j hj).1, (hb.cell (p := ⟨b, off + j * 2 + 1, none⟩) (Nat.lt_of_lt_of_le hl hn)).trans (hc j hj).2⟩⟩
theorem Tryd.infoActL : (Tryd.prog.info? 37).map (fun i => (i.zero, i.size, i.bytes)) = some (some (.agg #[.int .i8 0, .int .i64 0]), 2, 16) := by kernel_rfl
def accell (js : List (Int × Int)) (i : Nat) : Value := if i % 2 = 0 then .int .i8 (ak js (i / 2)) else .int .i64 (an js (i / 2))
def aczero (i : Nat) : Value := if i % 2 = 0 then .int .i8 0 else .int .i64 0
/-- what k rounds of a copy have made of n zero acts -/
def accp (js : List (Int × Int)) (n k : Nat) : List Value := (List.range (n * 2)).map fun i => if i < k * 2 then accell js i else aczero i
theorem accp_len (js : List (Int × Int)) (n k : Nat) : (accp js n k).length = n * 2 := by simp [accp]
theorem accp_zero (js : List (Int × Int)) (n : Nat) : (madeCells (Value.agg #[.int .i8 0, .int .i64 0]).cells (n * 2)).toList = accp js n 0 := by
  apply List.ext_getElem?
  intro i
  simp only [madeCells, accp, aczero, Value.cells, Array.toList_map, Array.toList_range, List.getElem?_map]
  by_cases hi : i < n * 2
  · simp only [List.getElem?_range hi, Option.map_some]
    have h2 : i % 2 = 0 ∨ i % 2 = 1 := by omega
    rcases h2 with h2 | h2 <;> simp [h2]
  · simp [List.getElem?_eq_none (show (List.range (n * 2)).length ≤ i by simp; omega)]
theorem accp_set (js : List (Int × Int)) (n k : Nat) (hk : k < n) : ((accp js n k).set (k * 2) (.int .i8 (ak js k))).set (k * 2 + 1) (.int .i64 (an js k)) = accp js n (k + 1) := by
  apply List.ext_getElem?
  intro i
  simp only [accp, List.getElem?_set, List.getElem?_map, List.length_map, List.length_range, List.length_set]
  by_cases h1 : k * 2 + 1 = i
  · subst h1
    have : (k * 2 + 1) % 2 = 1 := by omega
    have h3 : (k * 2 + 1) / 2 = k := by omega
    have h4 : k * 2 + 1 < n * 2 := by omega
    have h5 : k * 2 + 1 < (k + 1) * 2 := by omega
    simp [h4, h5, accell, this, h3]
  · rw [if_neg h1]
    by_cases h2 : k * 2 = i
    · subst h2
      have : (k * 2) % 2 = 0 := by omega
      have h3 : (k * 2) / 2 = k := by omega
      have h4 : k * 2 < n * 2 := by omega
      have h5 : k * 2 < (k + 1) * 2 := by omega
      simp [h4, h5, accell, this, h3]
    · rw [if_neg h2]
      by_cases hi : i < n * 2
      · simp only [List.getElem?_range hi, Option.map_some]
        by_cases h3 : i < k * 2
        · rw [if_pos h3, if_pos (by omega)]
        · rw [if_neg h3, if_neg (by omega)]
      · simp [List.getElem?_eq_none (show (List.range (n * 2)).length ≤ i by simp; omega)]
theorem accp_get (js : List (Int × Int)) (n : Nat) (j : Nat) (hj : j < n) : (accp js n n)[j * 2]? = some (.int .i8 (ak js j)) ∧ (accp js n n)[j * 2 + 1]? = some (.int .i64 (an js j)) := by
  have h0 : (j * 2) % 2 = 0 := by omega
  have h1 : (j * 2 + 1) % 2 = 1 := by omega
  have h2 : (j * 2) / 2 = j := by omega
  have h3 : (j * 2 + 1) / 2 = j := by omega
  have h4 : j * 2 < n * 2 := by omega
  have h5 : j * 2 + 1 < n * 2 := by omega
  exact ⟨by simp [accp, accell, h0, h2, h4], by simp [accp, accell, h1, h3, h5]⟩
set_option maxHeartbeats 1000000 in
theorem toActs_some (b off len cap : Nat) (js : List (Int × Int)) (hl : len ≤ 1048576) (hz : len = js.length) (w : World) (hbs : b < w.heap.size) (hc : ∀ j, j < len → w.cell? ⟨b, off + j * 2, none⟩ = some (.int .i8 (ak js j)) ∧ w.cell? ⟨b, off + j * 2 + 1, none⟩ = some (.int .i64 (an js j))) :
    Calls Tryd.prog 19 #[.slice (some ⟨b, off, none⟩) len cap] w fun e w' => e = .returned (.slice (some ⟨w.heap.size, 0, none⟩) len len) ∧ Below w.heap.size w w' ∧ Ast w' w.heap.size js ∧ w.heap.size < w'.heap.size := by
  obtain ⟨i0, hi, hz0, hz1, hz2⟩ := info_parts Tryd.infoActL
  have HC := hid hc
  have HZ := hid hz
  clear hc hz
  go_enter Tryd.func19, Tryd.ntmps19
  go_wp2_with (at_make; refine wpList_make_full _ rfl _ _ 45 rfl w.heap.size 37 i0 (.agg #[.int .i8 0, .int .i64 0]) 2 Tryd.underlying45 hi hz0 hz1 .i64 .i64 _ _ len rfl rfl rfl rfl (by rw [hz2]; omega) (by unfold maxLen; omega) (Nat.le_refl _) ?_; intro w1 hown hgrow)
  have hrow := Row.of_ownsAc hown rfl
  rw [accp_zero js len] at hrow
  have hB1 : Below w.heap.size w w1 := (Below.refl _ w).grown hgrow (Nat.le_refl _) (fun k e => by cases e)
  clear hown hgrow
  go_loopw [4] (fun i wr => ∃ k : Nat, k ≤ len ∧ i = .int .i64 k ∧ Row wr w.heap.size 37 (accp js len k) ∧ Below w.heap.size w wr) (fun i _ => len - (intOf i).toNat)
  case atStart => exact ⟨0, Nat.zero_le _, rfl, hrow, hB1⟩
  case round =>
    clear hrow hB1
    obtain ⟨k, hk, rfl, hrow, hB⟩ := hrel
    by_cases hlt : k < len
    · have c0 : wr.cell? ⟨b, off + k * 2, none⟩ = some (.int .i8 (ak js k)) := (hB.cell (p := ⟨b, off + k * 2, none⟩) hbs).trans (HC.out k hlt).1
      have c1 : wr.cell? ⟨b, off + k * 2 + 1, none⟩ = some (.int .i64 (an js k)) := (hB.cell (p := ⟨b, off + k * 2 + 1, none⟩) hbs).trans (HC.out k hlt).2
      have hlr := hrow.lt
      obtain ⟨x, hx⟩ : ∃ x, x = ak js k := ⟨_, rfl⟩
      obtain ⟨y, hy⟩ : ∃ y, y = an js k := ⟨_, rfl⟩
      rw [← hx] at c0
      rw [← hy] at c1
      have HS := hid (accp_set js len k hlt)
      rw [← hx, ← hy] at HS
      clear hx hy
      have HR := hid hrow
      clear hrow
      go_wp2_with fail
      refine (toAct_any x y _).mono ?_
      rintro e w2 ⟨rfl, hB2⟩
      have hz2 := hB2.size
      have r1 := HR.out.below hB2 hlr
      have f0 := r1.frozen (k * 2)
      have f1 := r1.frozen (k * 2 + 1)
      obtain ⟨o0, h0⟩ : ∃ v, w2.cell? ⟨w.heap.size, k * 2, none⟩ = some v := ⟨_, (r1.cell (k * 2)).trans (List.getElem?_eq_getElem (by rw [accp_len]; omega))⟩
      obtain ⟨o1, h1⟩ : ∃ v, w2.cell? ⟨w.heap.size, k * 2 + 1, none⟩ = some v := ⟨_, (r1.cell (k * 2 + 1)).trans (List.getElem?_eq_getElem (by rw [accp_len]; omega))⟩
      have r2 := hid ((r1.set (k * 2) (.int .i8 x)).set (k * 2 + 1) (.int .i64 y))
      rw [HS.out] at r2
      have b2 := hid (((hB.trans (hB2.mono (by omega))).setCell (p := ⟨w.heap.size, k * 2, none⟩) (Nat.le_refl _) (.int .i8 x)).setCell (p := ⟨w.heap.size, k * 2 + 1, none⟩) (Nat.le_refl _) (.int .i64 y))
      clear r1
      go_wp2_with fail
      go_roundw
      case rel => exact ⟨k + 1, by omega, by go_num, r2.out, b2.out⟩
      case measure => simp [intOf]; omega
    · obtain rfl : k = len := by omega
      have hlr := hrow.lt
      have HR := hid hrow
      clear hrow
      go_wp2_with fail
      go_ret
      exact ⟨rfl, hB, ⟨hlr, fun j hj => ⟨(HR.out.cell _).trans (accp_get js k j (by have := HZ.out; omega)).1, (HR.out.cell _).trans (accp_get js k j (by have := HZ.out; omega)).2⟩, by have := HZ.out; omega⟩, hlr⟩
set_option maxHeartbeats 400000 in
theorem toActs_none (a : Option Addr) (cap : Nat) (w : World) :
    Calls Tryd.prog 19 #[.slice a 0 cap] w fun e w' => e = .returned (.slice (some ⟨w.heap.size, 0, none⟩) 0 0) ∧ Below w.heap.size w w' ∧ Ast w' w.heap.size [] ∧ w.heap.size < w'.heap.size := by
  obtain ⟨i0, hi, hz0, hz1, hz2⟩ := info_parts Tryd.infoActL
  go_enter Tryd.func19, Tryd.ntmps19
  go_wp2_with (at_make; refine wpList_make_full _ rfl _ _ 45 rfl w.heap.size 37 i0 (.agg #[.int .i8 0, .int .i64 0]) 2 Tryd.underlying45 hi hz0 hz1 .i64 .i64 _ _ 0 rfl rfl rfl rfl (by rw [hz2]; omega) (by unfold maxLen; omega) (Nat.le_refl _) ?_; intro w1 hown hgrow)
  have hrow := Row.of_ownsAc hown rfl
  have hB : Below w.heap.size w w1 := (Below.refl _ w).grown hgrow (Nat.le_refl _) (fun k e => by cases e)
  clear hown hgrow
  refine wp_loop_rounds 1 ?_
  rw [rounds_succ]
  go_wp2
  go_ret
  exact ⟨rfl, hB, ⟨hrow.lt, fun j hj => by simp at hj, by simp⟩, hrow.lt⟩
/-- laws.toActS at whatever argument. -/
theorem toActs_any (a : Option Addr) (len cap : Nat) (js : List (Int × Int)) (w : World) (h : InAc w a len js) (hl : len ≤ 1048576) :
    Calls Tryd.prog 19 #[.slice a len cap] w fun e w' => e = .returned (.slice (some ⟨w.heap.size, 0, none⟩) len len) ∧ Below w.heap.size w w' ∧ Ast w' w.heap.size js ∧ w.heap.size < w'.heap.size := by
  by_cases h0 : len = 0
  · have hz := h.1
    subst h0
    obtain rfl : js = [] := List.length_eq_zero_iff.1 hz
    exact toActs_none a cap w
  · rcases h.2.2 with h0' | ⟨b, off, rfl, hb, hc⟩
    · exact absurd h0' h0
    · exact toActs_some b off len cap js hl h.1.symm w hb hc
section
variable {H : Type} {enc : TypeId × Value → H} {P : Program} {W : World}
theorem list_ofAc {α : Type} (d : α) (Q : Nat → α → Prop) : ∀ (n : Nat), (∀ i, i < n → ∃ x, Q i x) → ∃ l : List α, l.length = n ∧ ∀ i, i < n → Q i (l[i]?.getD d)
  | 0, _ => ⟨[], rfl, fun i h => by omega⟩
  | n + 1, h => by
    obtain ⟨l, hl, hq⟩ := list_ofAc d Q n (fun i hi => h i (by omega))
    obtain ⟨x, hx⟩ := h n (by omega)
    refine ⟨l ++ [x], by simp [hl], fun i hi => ?_⟩
    by_cases e : i = n
    · subst e
      simpa [← hl] using hx
    · have := hq i (by omega)
      rwa [List.getElem?_append_left (by omega)]
theorem open_actsV {t e : TypeId} {f0 f1 : Field} (ht : P.underlying t = some (.slice e)) (he : P.underlying e = some (.struct #[f0, f1])) (h0 : P.underlying f0.type = some (.int .i8)) (h1 : P.underlying f1.type = some (.int .i64))
    (hone : Go.Deep.oneCellFields P #[f0, f1] = true) (hC : P.cellsOf e = 2) {n : Nat} {v : Value} {y : DataW H × List MemPlace}
    (h : DataW.trod enc P W 0 (fun _ => true) true n t [v] = some y) : ∃ a len cap js, v = .slice a len cap ∧ len ≤ 9223372036854775807 ∧ InAc W a len js := by
  rcases Go.Deep.open_slice ht h with ⟨hcs, _⟩ | ⟨x, l, c, m, n', D, Pl, hcs, _, hl, hm, hmm, _, hi⟩
  · obtain rfl : v = .slice none 0 0 := by simpa using hcs
    exact ⟨_, _, _, [], rfl, by omega, rfl, fun j hj => by omega, .inl rfl⟩
  · obtain rfl : v = .slice (some x) l c := by simpa using hcs
    have each : ∀ i, i < l → ∃ p : Int × Int, ((-128 ≤ p.1 ∧ p.1 ≤ 127) ∧ (-9223372036854775808 ≤ p.2 ∧ p.2 ≤ 9223372036854775807)) ∧ W.cell? (x.add (i * 2)) = some (.int .i8 p.1) ∧ W.cell? (x.add (i * 2 + 1)) = some (.int .i64 p.2) := fun i hil => by
      obtain ⟨cs', hc, ht'⟩ := hi i (by rw [hmm]; split <;> omega)
      rw [hC] at hc
      obtain ⟨_, hcl, hat⟩ := World.cells?_some hc
      obtain ⟨xs, n2, _, _, _, hxl, hf⟩ := DataW.trod_struct he ht'
      obtain ⟨o0, k0⟩ := Go.Deep.hone_of hone 0 f0 rfl
      obtain ⟨o1, k1⟩ := Go.Deep.hone_of hone 1 f1 rfl
      match cs', hcl with
      | [u0, u1], _ =>
        have g0 := hf 0 f0 rfl
        have g1 := hf 1 f1 rfl
        rw [o0, k0] at g0
        rw [o1, k1] at g1
        have x0 : xs[0]? = some (xs[0]'(by rw [hxl]; show _ < 2; omega)) := List.getElem?_eq_getElem _
        have x1 : xs[1]? = some (xs[1]'(by rw [hxl]; show _ < 2; omega)) := List.getElem?_eq_getElem _
        rw [x0] at g0
        rw [x1] at g1
        obtain ⟨z0, e0, _, w0⟩ := DataW.trod_int h0 g0
        obtain ⟨z1, e1, _, w1⟩ := DataW.trod_int h1 g1
        simp at e0 e1
        have a0 := hat 0 (by omega)
        have a1 := hat 1 (by omega)
        have b0 := bounds_i8 w0
        have b1 := bounds_i64 w1
        refine ⟨(z0, z1), ⟨b0, b1⟩, ?_, ?_⟩
        · have : x.add (i * 2) = (x.add (i * 2)).add 0 := by simp [Addr.add]
          rw [this, a0]; simp [e0]
        · have : x.add (i * 2 + 1) = (x.add (i * 2)).add 1 := by rw [Go.Deep.add_add]
          rw [this, a1]; simp [e1]
    obtain ⟨js, hjl, hj⟩ := list_ofAc ((0 : Int), (0 : Int)) _ l each
    refine ⟨_, _, _, js, rfl, by unfold maxLen at hm; omega, hjl, fun j hjl' => (hj j hjl').1, ?_⟩
    by_cases hl0 : l = 0
    · exact .inl hl0
    · right
      have c0 := (hj 0 (by omega)).2.1
      obtain ⟨b, off, spot⟩ := x
      have hspot : spot = none := by simpa [Addr.add] using World.cell?_spot c0
      subst hspot
      have hb : b < W.heap.size := by
        by_cases hb : b < W.heap.size
        · exact hb
        · simp [World.cell?, Addr.add, Array.getElem?_eq_none (Nat.le_of_not_lt hb)] at c0
      have ad : ∀ k, (⟨b, off, none⟩ : Addr).add k = ⟨b, off + k, none⟩ := fun k => by
        by_cases h : k = 0
        · subst h; simp [Addr.add]
        · simp [Addr.add, h]
      refine ⟨b, off, rfl, hb, fun j hjl' => ?_⟩
      have := (hj j hjl').2
      rw [ad, ad] at this
      exact ⟨this.1, by rw [← Nat.add_assoc] at this; exact this.2⟩
theorem open_acts {t e : TypeId} {f0 f1 : Field} (ht : P.underlying t = some (.slice e)) (he : P.underlying e = some (.struct #[f0, f1])) (h0 : P.underlying f0.type = some (.int .i8)) (h1 : P.underlying f1.type = some (.int .i64))
    (hone : Go.Deep.oneCellFields P #[f0, f1] = true) (hC : P.cellsOf e = 2) {a : Option Addr} {len cap : Nat} {d : DataW H} {p : List MemPlace}
    (h : DataW.Trod enc P W 0 (fun _ => true) true t (.slice a len cap) d p) : ∃ js, len ≤ 9223372036854775807 ∧ InAc W a len js := by
  obtain ⟨fuel, hf⟩ := h
  obtain ⟨a', len', cap', js, e1, hl, hj⟩ := open_actsV (v := .slice a len cap) ht he h0 h1 hone hC hf
  simp only [Value.slice.injEq] at e1
  obtain ⟨rfl, rfl, rfl⟩ := e1
  exact ⟨js, hl, hj⟩
end

theorem szActs_ok (a : Option Addr) (len cap : Nat) (w : World) (h : len ≤ 1048576) : Calls Tryd.prog 17 #[.slice a len cap, .int .i64 1048576] w fun e w' => e = .returned (.int .i64 (1048576 - len)) ∧ w = w' := by
  have h1 : (0 : Int) ≤ 1048576 - (len : Int) := by omega
  go_enter Tryd.func17, Tryd.ntmps17
  go_wp2
  go_ret
  exact ⟨rfl, rfl⟩
theorem szActs_no (a : Option Addr) (len cap : Nat) (w : World) (h : 1048576 < len) (hl : len ≤ 9223372036854775807) : Calls Tryd.prog 17 #[.slice a len cap, .int .i64 1048576] w fun e w' => e = .returned (.int .i64 (-1)) ∧ w = w' := by
  have h1 : 1048576 - (len : Int) < 0 := by omega
  go_enter Tryd.func17, Tryd.ntmps17
  go_wp2
  go_ret
  exact ⟨rfl, rfl⟩
end Go.Proofs.YthifegbmpmialaaDoor

namespace Go.Proofs.YthifegbmpmialaaDoor
open Go.RowKit
set_option linter.unusedVariables false
set_option linter.unusedSimpArgs false
set_option maxHeartbeats 1000000 in
theorem toActsR_some (b off len cap : Nat) (js : List (Int × Int)) (hl : len ≤ 1048576) (hz : len = js.length) (w : World) (hbs : b < w.heap.size) (hc : ∀ j, j < len → w.cell? ⟨b, off + j * 2, none⟩ = some (.int .i8 (ak js j)) ∧ w.cell? ⟨b, off + j * 2 + 1, none⟩ = some (.int .i64 (an js j))) :
    Calls Tryd.prog 19 #[.slice (some ⟨b, off, none⟩) len cap] w fun e w' => e = .returned (.slice (some ⟨w.heap.size, 0, none⟩) len len) ∧ Below w.heap.size w w' ∧ Ast w' w.heap.size js ∧ ∃ ya : List Value, ya.length = len * 2 ∧ Row w' w.heap.size 37 ya := by
  obtain ⟨i0, hi, hz0, hz1, hz2⟩ := info_parts Tryd.infoActL
  have HC := hid hc
  have HZ := hid hz
  clear hc hz
  go_enter Tryd.func19, Tryd.ntmps19
  go_wp2_with (at_make; refine wpList_make_full _ rfl _ _ 45 rfl w.heap.size 37 i0 (.agg #[.int .i8 0, .int .i64 0]) 2 Tryd.underlying45 hi hz0 hz1 .i64 .i64 _ _ len rfl rfl rfl rfl (by rw [hz2]; omega) (by unfold maxLen; omega) (Nat.le_refl _) ?_; intro w1 hown hgrow)
  have hrow := Row.of_ownsAc hown rfl
  rw [accp_zero js len] at hrow
  have hB1 : Below w.heap.size w w1 := (Below.refl _ w).grown hgrow (Nat.le_refl _) (fun k e => by cases e)
  clear hown hgrow
  go_loopw [4] (fun i wr => ∃ k : Nat, k ≤ len ∧ i = .int .i64 k ∧ Row wr w.heap.size 37 (accp js len k) ∧ Below w.heap.size w wr) (fun i _ => len - (intOf i).toNat)
  case atStart => exact ⟨0, Nat.zero_le _, rfl, hrow, hB1⟩
  case round =>
    clear hrow hB1
    obtain ⟨k, hk, rfl, hrow, hB⟩ := hrel
    by_cases hlt : k < len
    · have c0 : wr.cell? ⟨b, off + k * 2, none⟩ = some (.int .i8 (ak js k)) := (hB.cell (p := ⟨b, off + k * 2, none⟩) hbs).trans (HC.out k hlt).1
      have c1 : wr.cell? ⟨b, off + k * 2 + 1, none⟩ = some (.int .i64 (an js k)) := (hB.cell (p := ⟨b, off + k * 2 + 1, none⟩) hbs).trans (HC.out k hlt).2
      have hlr := hrow.lt
      obtain ⟨x, hx⟩ : ∃ x, x = ak js k := ⟨_, rfl⟩
      obtain ⟨y, hy⟩ : ∃ y, y = an js k := ⟨_, rfl⟩
      rw [← hx] at c0
      rw [← hy] at c1
      have HS := hid (accp_set js len k hlt)
      rw [← hx, ← hy] at HS
      clear hx hy
      have HR := hid hrow
      clear hrow
      go_wp2_with fail
      refine (toAct_any x y _).mono ?_
      rintro e w2 ⟨rfl, hB2⟩
      have hz2 := hB2.size
      have r1 := HR.out.below hB2 hlr
      have f0 := r1.frozen (k * 2)
      have f1 := r1.frozen (k * 2 + 1)
      obtain ⟨o0, h0⟩ : ∃ v, w2.cell? ⟨w.heap.size, k * 2, none⟩ = some v := ⟨_, (r1.cell (k * 2)).trans (List.getElem?_eq_getElem (by rw [accp_len]; omega))⟩
      obtain ⟨o1, h1⟩ : ∃ v, w2.cell? ⟨w.heap.size, k * 2 + 1, none⟩ = some v := ⟨_, (r1.cell (k * 2 + 1)).trans (List.getElem?_eq_getElem (by rw [accp_len]; omega))⟩
      have r2 := hid ((r1.set (k * 2) (.int .i8 x)).set (k * 2 + 1) (.int .i64 y))
      rw [HS.out] at r2
      have b2 := hid (((hB.trans (hB2.mono (by omega))).setCell (p := ⟨w.heap.size, k * 2, none⟩) (Nat.le_refl _) (.int .i8 x)).setCell (p := ⟨w.heap.size, k * 2 + 1, none⟩) (Nat.le_refl _) (.int .i64 y))
      clear r1
      go_wp2_with fail
      go_roundw
      case rel => exact ⟨k + 1, by omega, by go_num, r2.out, b2.out⟩
      case measure => simp [intOf]; omega
    · obtain rfl : k = len := by omega
      have hlr := hrow.lt
      have HR := hid hrow
      clear hrow
      go_wp2_with fail
      go_ret
      exact ⟨rfl, hB, ⟨hlr, fun j hj => ⟨(HR.out.cell _).trans (accp_get js k j (by have := HZ.out; omega)).1, (HR.out.cell _).trans (accp_get js k j (by have := HZ.out; omega)).2⟩, by have := HZ.out; omega⟩, _, accp_len js k k, HR.out⟩
set_option maxHeartbeats 400000 in
theorem toActsR_none (a : Option Addr) (cap : Nat) (w : World) :
    Calls Tryd.prog 19 #[.slice a 0 cap] w fun e w' => e = .returned (.slice (some ⟨w.heap.size, 0, none⟩) 0 0) ∧ Below w.heap.size w w' ∧ Ast w' w.heap.size [] ∧ ∃ ya : List Value, ya.length = 0 * 2 ∧ Row w' w.heap.size 37 ya := by
  obtain ⟨i0, hi, hz0, hz1, hz2⟩ := info_parts Tryd.infoActL
  go_enter Tryd.func19, Tryd.ntmps19
  go_wp2_with (at_make; refine wpList_make_full _ rfl _ _ 45 rfl w.heap.size 37 i0 (.agg #[.int .i8 0, .int .i64 0]) 2 Tryd.underlying45 hi hz0 hz1 .i64 .i64 _ _ 0 rfl rfl rfl rfl (by rw [hz2]; omega) (by unfold maxLen; omega) (Nat.le_refl _) ?_; intro w1 hown hgrow)
  have hrow := Row.of_ownsAc hown rfl
  have hB : Below w.heap.size w w1 := (Below.refl _ w).grown hgrow (Nat.le_refl _) (fun k e => by cases e)
  clear hown hgrow
  refine wp_loop_rounds 1 ?_
  rw [rounds_succ]
  go_wp2
  go_ret
  exact ⟨rfl, hB, ⟨hrow.lt, fun j hj => by simp at hj, by simp⟩, _, by rw [accp_zero [] 0]; exact accp_len [] 0 0, hrow⟩
/-- laws.toActS at whatever argument. -/
theorem toActsR_any (a : Option Addr) (len cap : Nat) (js : List (Int × Int)) (w : World) (h : InAc w a len js) (hl : len ≤ 1048576) :
    Calls Tryd.prog 19 #[.slice a len cap] w fun e w' => e = .returned (.slice (some ⟨w.heap.size, 0, none⟩) len len) ∧ Below w.heap.size w w' ∧ Ast w' w.heap.size js ∧ ∃ ya : List Value, ya.length = len * 2 ∧ Row w' w.heap.size 37 ya := by
  by_cases h0 : len = 0
  · have hz := h.1
    subst h0
    obtain rfl : js = [] := List.length_eq_zero_iff.1 hz
    exact toActsR_none a cap w
  · rcases h.2.2 with h0' | ⟨b, off, rfl, hb, hc⟩
    · exact absurd h0' h0
    · exact toActsR_some b off len cap js hl h.1.symm w hb hc

set_option maxHeartbeats 2000000 in
theorem markActS_any (g n cap : Nat) (k0 : Int) (xs : List Value) (hx : xs.length = n * 2) (hb : 0 ≤ k0 ∧ k0 ≤ 4611686018427387904) (hn : n ≤ 1048576) (w : World) (hR : Row w g 37 xs) :
    Calls Tryd.prog 22 #[.slice (some ⟨g, 0, none⟩) n cap, .int .i64 k0] w fun e w' => e = .returned (.int .i64 (k0 + 2 * (n : Int))) ∧ OnlyB g w w' := by
  go_enter Tryd.func22, Tryd.ntmps22
  go_wp2_with fail
  go_loopw [1, 5] (fun m i wr => ∃ (k : Nat) (ys : List Value), k ≤ n ∧ i = .int .i64 k ∧ m = .int .i64 (k0 + 2 * (k : Int)) ∧ ys.length = n * 2 ∧ Row wr g 37 ys ∧ OnlyB g w wr) (fun _ i _ => n - (intOf i).toNat)
  case atStart => exact ⟨0, xs, Nat.zero_le _, rfl, by simp, hx, hR, OnlyB.refl _ _⟩
  case round =>
    clear hR hx
    obtain ⟨k, ys, hk, rfl, rfl, hy, hrow, hO⟩ := hrel
    by_cases hlt : k < n
    · have hlt' : (k : Int) < (n : Int) := by omega
      have hk0 : (0 : Int) ≤ (k : Int) := by omega
      have f0 := hrow.frozen (k * 2)
      have f1 := hrow.frozen (k * 2 + 1)
      obtain ⟨o0, h0⟩ : ∃ u, wr.cell? ⟨g, k * 2, none⟩ = some u := ⟨_, (hrow.cell (k * 2)).trans (List.getElem?_eq_getElem (by omega))⟩
      obtain ⟨o1, h1⟩ : ∃ u, wr.cell? ⟨g, k * 2 + 1, none⟩ = some u := ⟨_, (hrow.cell (k * 2 + 1)).trans (List.getElem?_eq_getElem (by omega))⟩
      have R3 := hid (fun u u' => (hrow.set (k * 2) u).set (k * 2 + 1) u')
      have O3 := hid (fun u u' => (hO.set (k * 2) u).set (k * 2 + 1) u')
      have HY := hid hy
      obtain ⟨m, hm⟩ : ∃ y, k0 + 2 * (k : Int) = y := ⟨_, rfl⟩
      have hmb : 0 ≤ m ∧ m ≤ 4611686018429485056 := by omega
      have HM := hid hm
      rw [hm]
      have t2 : IntKind.i64.wrap (m + 1) = m + 1 := IntWalk.i64_in _ (by omega)
      have t3 : IntKind.i64.wrap (m + 1 + 1) = m + 1 + 1 := IntWalk.i64_in _ (by omega)
      clear hrow hO hy hm
      go_wp2_with fail
      go_roundw
      case rel => exact ⟨k + 1, _, by omega, by go_num, by have := HM.out; congr 1; omega, by rw [List.length_set, List.length_set]; exact HY.out, R3.out _ _, O3.out _ _⟩
      case measure => simp [intOf]; omega
    · obtain rfl : k = n := by omega
      have O3 := hid hO
      clear hrow hO hy
      go_wp2_with fail
      go_ret
      exact ⟨rfl, O3.out⟩
theorem szActs_gen (a : Option Addr) (len cap : Nat) (left : Int) (w : World) (h : (len : Int) ≤ left ∧ left ≤ 1048576) : Calls Tryd.prog 17 #[.slice a len cap, .int .i64 left] w fun e w' => e = .returned (.int .i64 (left - len)) ∧ w = w' := by
  have h1 : (0 : Int) ≤ left - (len : Int) := by omega
  have h2 := h.2
  clear h
  go_enter Tryd.func17, Tryd.ntmps17
  go_wp2
  go_ret
  exact ⟨rfl, rfl⟩
theorem szActs_not (a : Option Addr) (len cap : Nat) (left : Int) (w : World) (h0 : 0 ≤ left ∧ left ≤ 1048576) (h : left < (len : Int)) (hl : len ≤ 9223372036854775807) : Calls Tryd.prog 17 #[.slice a len cap, .int .i64 left] w fun e w' => e = .returned (.int .i64 (-1)) ∧ w = w' := by
  have h1 : left - (len : Int) < 0 := by omega
  have h2 := h0.1
  have h3 := h0.2
  clear h h0
  go_enter Tryd.func17, Tryd.ntmps17
  go_wp2
  go_ret
  exact ⟨rfl, rfl⟩
theorem okT_as {js : List (Int × Int)} {N : Nat} (hN : N = js.length) (o : Bool) : okT o js N = (o && okAs js) := by rw [hN]; rfl
theorem l07Run_any (D B n cap : Nat) (zs ds : List Int) (v pr : Int) (st : Bool) (tk : Int) (b N acap : Nat) (js : List (Int × Int)) (w : World) (hD : Row w D 33 (dvC (.slice (some ⟨B, 0, none⟩) n cap) ds pr st tk)) (hS : Stk w B zs) (hn : n = zs.length) (hd8 : ds.length = 8) (ho : Oct (dg ds 0) (dg ds 1) (dg ds 2) (dg ds 3) (dg ds 4) (dg ds 5) (dg ds 6) (dg ds 7)) (hvv : okDev zs ds pr st tk = true → ds = dgL zs v ∧ okS (szL zs) (v, pr, st, tk)) (hA : Ast w b js) (hN : N = js.length) :
    Calls Tryd.prog 51 #[.pointer (some ⟨D, 0, none⟩), .slice (some ⟨b, 0, none⟩) N acap] w (RunR zs (v, pr, st, tk) js N (rcode zs ds v pr st tk js N) w) := by
  have hK : ∀ W, Below w.heap.size w W → Calls Tryd.prog 65 #[.pointer (some ⟨D, 0, none⟩), (.slice (some ⟨b, 0, none⟩) N acap)] W (GivesB W (.int .i64 (askV (okDev zs ds pr st tk) js N))) := fun W hB =>
    l07Asked_any D B n cap zs ds pr st tk b N acap js W (hA.below hB hA.1) hN (l07Ok_dv D B n cap zs ds pr st tk W (hS.below hB hS.1) hn hd8 ho (hD.below hB hD.lt))
  by_cases h0 : askV (okDev zs ds pr st tk) js N = 0
  · have hT : okT (okDev zs ds pr st tk) js N = true := by
      cases hx : okT (okDev zs ds pr st tk) js N with
      | true => rfl
      | false => rw [askV, if_pos hx] at h0; exact absurd h0 (by decide)
    have h60 : ¬ 60 < N := fun h => by rw [askV, if_neg (by rw [hT]; decide), if_pos h] at h0; exact absurd h0 (by decide)
    rw [okT_as hN, Bool.and_eq_true] at hT
    obtain ⟨hv, hb⟩ := hT
    obtain ⟨rfl, hok⟩ := hvv hv
    have hr : rpE (szL zs) (v, pr, st, tk) js N = rcode zs (dgL zs v) v pr st tk js N := by rw [rcode, if_neg (by rw [hv]; decide), if_neg (by rw [hb]; decide), if_neg h60]
    rw [← hr]
    rw [h0] at hK
    exact l07Run_go D B n cap zs (dgL zs v) v pr st tk b N acap js w hD hS hn hS.2.2.1 (okDev_okL hv) hok hA hN hb (by omega) hK
  · have hr : rcode zs ds v pr st tk js N = askV (okDev zs ds pr st tk) js N := by
      rw [rcode, askV, okT_as hN]
      cases hv : okDev zs ds pr st tk with
      | false => rfl
      | true =>
        cases hb : okAs js with
        | false => rfl
        | true =>
          simp only [Bool.and_self, Bool.true_eq_false, if_false]
          by_cases h : 60 < N
          · rw [if_pos h, if_pos h]
          · rw [askV, okT_as hN, hv, hb, if_neg (by decide), if_neg h] at h0
            exact absurd rfl h0
    rw [hr]
    exact (l07Run_no D B n cap zs ds v pr st tk b N acap js w hD hS hn _ h0 hK).mono fun e w' h => RunNo.run h0 h
theorem flat_get {α : Type} {f : Nat → List α} {m : Nat} (hm : ∀ i, (f i).length = m) : ∀ (n : Nat), (((List.range n).map f).flatten).length = n * m ∧ ∀ k j, k < n → j < m → (((List.range n).map f).flatten)[k * m + j]? = (f k)[j]?
  | 0 => ⟨by simp, fun k j h => by omega⟩
  | n + 1 => by
    obtain ⟨hl, ih⟩ := flat_get hm n
    have e : ((List.range (n + 1)).map f).flatten = ((List.range n).map f).flatten ++ f n := by simp [List.range_succ]
    refine ⟨by rw [e, List.length_append, hl, hm, Nat.add_mul, Nat.one_mul], fun k j hk hj => ?_⟩
    rw [e]
    by_cases h : k < n
    · have h2 : (k + 1) * m ≤ n * m := Nat.mul_le_mul_right m h
      rw [Nat.add_mul, Nat.one_mul] at h2
      rw [List.getElem?_append_left (by omega)]
      exact ih k j h hj
    · obtain rfl : k = n := by omega
      rw [List.getElem?_append_right (by omega), hl]
      congr 1; omega
theorem owns_row {w : World} {base size n : Nat} {e : TypeId} {v : Value} {xs : List Value} (h : w.ownsRow base e size v n xs) (hn : 1 ≤ n) : ∃ g cap rest, v = .slice (some ⟨g, 0, none⟩) n cap ∧ base ≤ g ∧ Row w g e (xs ++ rest) := by
  rcases h.2 with ⟨_, h0⟩ | ⟨g, cap, cur, rfl, h2, h3, h4, h5, h6, h7⟩
  · omega
  · refine ⟨g, cap, cur.toList.drop (n * size), rfl, h2, ?_⟩
    unfold Row
    rw [h3, ← h7, List.take_append_drop]
theorem ntP_len (z : Int) (zs : List Int) (S : DS) (js : List (Int × Int)) (i : Nat) : (ntP z zs S js i).length = 11 := rfl
theorem ntL_lost (z : Int) (zs : List Int) (S : DS) (js : List (Int × Int)) (N k : Nat) (hk : k < N) (rest : List Value) : (ntL z zs S js N ++ rest)[k * 11 + 10]? = some (.int .i64 (loF z S js k)) := by
  obtain ⟨hl, h⟩ := flat_get (ntP_len z zs S js) N
  unfold ntL
  rw [List.getElem?_append_left (by omega), h k 10 hk (by omega)]
  rfl
set_option maxRecDepth 100000 in
set_option maxHeartbeats 1500000 in
theorem specDoActs_any (B n cap : Nat) (zs ds : List Int) (v pr : Int) (st : Bool) (tk : Int) (b N acap : Nat) (js : List (Int × Int)) (w : World) (hS : Stk w B zs) (hn : n = zs.length) (hd8 : ds.length = 8) (ho : Oct (dg ds 0) (dg ds 1) (dg ds 2) (dg ds 3) (dg ds 4) (dg ds 5) (dg ds 6) (dg ds 7)) (hvv : okDev zs ds pr st tk = true → ds = dgL zs v ∧ okS (szL zs) (v, pr, st, tk)) (hA : Ast w b js) (hN : N = js.length) :
    Calls Tryd.prog 18 #[.agg (dvC (.slice (some ⟨B, 0, none⟩) n cap) ds pr st tk).toArray, (.slice (some ⟨b, 0, none⟩) N acap)] w (DevO zs (v, pr, st, tk) js N (rcode zs ds v pr st tk js N) w) := by
  have hID : (Tryd.prog.info? 33).map (·.size) = some 12 := Tryd.infoDev
  obtain ⟨V, hV⟩ : ∃ y, y = ((w.alloc (.cells (dvC (.slice (some ⟨B, 0, none⟩) n cap) ds pr st tk).toArray 33)).alloc (.cells #[.slice none 0 0, .int .u8 0, .int .u8 0, .int .u8 0, .int .u8 0, .int .u8 0, .int .u8 0, .int .u8 0, .int .u8 0, .int .i64 0, .bool false, .int .i64 0] 33)) := ⟨_, rfl⟩
  have bV : Below w.heap.size w V := by rw [hV]; exact ((Below.refl _ _).alloc (Nat.le_refl _) _).alloc (by simp) _
  have rP : Row V w.heap.size 33 (dvC (.slice (some ⟨B, 0, none⟩) n cap) ds pr st tk) := by rw [hV]; exact (Row.new w _ _).alloc _
  have rZ : Row V (w.heap.size + 1) 33 dvZ := by
    have h := Row.new (w.alloc (.cells (dvC (.slice (some ⟨B, 0, none⟩) n cap) ds pr st tk).toArray 33)) 33 dvZ
    simp only [World.size_alloc] at h
    rw [hV]; exact h
  have HR := hid (l07Run_any w.heap.size B n cap zs ds v pr st tk b N acap js V rP (hS.below bV hS.1) hn hd8 ho hvv (hA.below bV hA.1) hN)
  have hzb := hS.2.2.2
  have HSB := hid (fun (z : 1 ≤ szL zs) => z)
  have hsb : rcode zs ds v pr st tk js N = 0 → N ≤ 60 ∧ ∀ k, k ≤ N → 0 ≤ suF (szL zs) (v, pr, st, tk) js k ∧ suF (szL zs) (v, pr, st, tk) js k ≤ 1000000000000 * k := fun hc => by
    rw [rcode] at hc
    split at hc
    · exact absurd hc (by decide)
    · next hv =>
      split at hc
      · exact absurd hc (by decide)
      · next hb =>
        split at hc
        · exact absurd hc (by decide)
        · next h60 =>
          have hv' : okDev zs ds pr st tk = true := by simpa using hv
          have hb' : okAs js = true := by simpa using hb
          refine ⟨by omega, fun k hk => ?_⟩
          exact suF_bd (okL_out (okDev_okL hv')).2.2.2.1 (hvv hv').2 (okAs_out hb') k (by omega)
  obtain ⟨c, hc⟩ : ∃ y, rcode zs ds v pr st tk js N = y := ⟨_, rfl⟩
  rw [hc] at HR hsb ⊢
  have HV := hid hV; have BV := hid bV; have RZ := hid rZ; have HSU := hid hsb
  clear hV bV rP rZ hS hn hd8 ho hvv hA hN hc hsb
  go_enter Tryd.func18, Tryd.ntmps18
  go_wp2_with fail
  rw [← HV.out]
  refine HR.out.mono ?_
  rintro e w1 ⟨⟨hc, g, cp, rest, nv, tv', bn, bt, rfl, hg, hG, hbn, oN, hbt, oT⟩ | ⟨hc, x1, x2, rfl⟩, hB1⟩
  · subst hc
    obtain ⟨h60, hsu⟩ := HSU.out rfl
    obtain ⟨⟨tv, tpr, tst, ttk⟩, hST⟩ : ∃ T : DS, stF (szL zs) (v, pr, st, tk) js N = T := ⟨_, rfl⟩
    rw [hST]
    have e9 : (dvS (.slice (some ⟨g, 0, none⟩) zs.length cp) zs (tv, tpr, tst, ttk)) = (dvC (.slice (some ⟨g, 0, none⟩) zs.length cp) (dgL zs tv) tpr tst ttk) := rfl
    rw [e9]
    clear e9
    obtain ⟨V2, hV2⟩ : ∃ y, y = w1.alloc (.cells #[.slice none 0 0, .int .u8 0, .int .u8 0, .int .u8 0, .int .u8 0, .int .u8 0, .int .u8 0, .int .u8 0, .int .u8 0, .int .i64 0, .bool false, .int .i64 0] 33) := ⟨_, rfl⟩
    have r7 : Row V2 w1.heap.size 33 dvZ := by rw [hV2]; exact Row.new w1 _ dvZ
    have a2 : Below w1.heap.size w1 V2 := by rw [hV2]; exact (Below.refl _ _).alloc (Nat.le_refl _) _
    have T7 := r7.thereO 0 12 (by rw [dvZ_len]; omega)
    rw [hV2] at T7
    obtain ⟨W3, hW3⟩ : ∃ y, y = V2.setCells w1.heap.size 0 (dvC (.slice (some ⟨g, 0, none⟩) zs.length cp) (dgL zs tv) tpr tst ttk) := ⟨_, rfl⟩
    have r7b : Row W3 w1.heap.size 33 (dvC (.slice (some ⟨g, 0, none⟩) zs.length cp) (dgL zs tv) tpr tst ttk) := by rw [hW3]; exact r7.setAll rfl
    have a3 : Below w1.heap.size w1 W3 := by rw [hW3]; exact below_setCellsD _ 0 _ a2 (Nat.le_refl _)
    have hEQ : World.setCells (w1.alloc (.cells #[.slice none 0 0, .int .u8 0, .int .u8 0, .int .u8 0, .int .u8 0, .int .u8 0, .int .u8 0, .int .u8 0, .int .u8 0, .int .i64 0, .bool false, .int .i64 0] 33)) w1.heap.size 0 (dvC (.slice (some ⟨g, 0, none⟩) zs.length cp) (dgL zs tv) tpr tst ttk).toArray.toList = W3 := by rw [← hV2]; exact hW3.symm
    have HEQ := hid hEQ
    clear hEQ hW3 hV2 r7 a2
    have rZ := (RZ.out.below hB1 RZ.out.lt).below a3 (Nat.lt_of_lt_of_le RZ.out.lt hB1.size)
    have hG2 := hG.below a3 hG.lt
    have oN2 := owns_belowP oN a3
    have hB3 := BV.out.trans (hB1.mono BV.out.size)
    have hB4 := hB3.trans (a3.mono hB3.size)
    have HST := hid hST
    have lz := hid (show w.heap.size + 1 < w1.heap.size from Nat.lt_of_lt_of_le RZ.out.lt hB1.size)
    have HGW := hid (show w.heap.size + 2 ≤ g by have h := hg; rw [HV.out] at h; simp at h; omega)
    obtain ⟨g7, hg7⟩ : ∃ y, y = w1.heap.size := ⟨_, rfl⟩
    have HSU2 := hid hsu
    have HCELL : Hid (1 ≤ N → ∃ gn cpn, nv = .slice (some ⟨gn, 0, none⟩) N cpn ∧ ∀ k, k < N → W3.cell? ⟨gn, k * 11 + 10, none⟩ = some (.int .i64 (loF (szL zs) (v, pr, st, tk) js k))) := hid (fun h1 => by
      obtain ⟨gn, cpn, rs, e1, _, hr⟩ := owns_row oN2 h1
      exact ⟨gn, cpn, e1, fun k hk => (hr.cell _).trans (ntL_lost _ _ _ _ _ _ hk _)⟩)
    have HNV : Hid (N = 0 → ∃ an cpn, nv = .slice an 0 cpn) := hid (fun h0 => by
      subst h0
      rcases oN2.2 with ⟨h1, _⟩ | ⟨g', cap', cur', h1, _⟩
      · exact ⟨_, _, h1⟩
      · exact ⟨_, _, h1⟩)
    have B4 := hid hB4; have RZ3 := hid rZ; have RG3 := hid hG2; have R7 := hid r7b
    clear a3 rZ hG hG2 oN oN2 oT hB3 hB4 hB1 hST hsu r7b hg hbn hbt
    go_upto_region 2 with ((with_reducible refine wpList_store_mid rfl 33 _ _ rfl w1.heap.size 0 (dvC (.slice (some ⟨g, 0, none⟩) zs.length cp) (dgL zs tv) tpr tst ttk).toArray ?_ ?_ ?_ ?_ (all_oneCell_toArray (dvC_one _ _ _ _ _ _ _)) ?_); rfl; rfl; exact T7; exact hID)
    rw [HEQ.out]
    try simp only [Act.put]
    have R7' := R7.out
    rw [← hg7] at R7' ⊢
    have R7b := hid R7'
    have lz' := lz.out
    rw [← hg7] at lz'
    clear T7 HEQ hg7 R7 R7' lz
    have FIN : Hid (DevO zs (v, pr, st, tk) js N 0 w (.returned (.tuple #[.agg (dvC (.slice (some ⟨g, 0, none⟩) zs.length cp) (dgL zs tv) tpr tst ttk).toArray, .int .i64 (suF (szL zs) (v, pr, st, tk) js N), .int .i64 0])) (W3.setCells (w.heap.size + 1) 0 (dvC (.slice (some ⟨g, 0, none⟩) zs.length cp) (dgL zs tv) tpr tst ttk))) := hid (by
      refine DevO.yes (cp := cp) rfl (by rw [HST.out]) (by omega) (by have := HGW.out; omega) (RG3.out.setCellsO (by have := HGW.out; omega) _ _) ?_
      exact below_setCellsD _ 0 _ B4.out (by omega))
    have N4 := hid (RZ3.out.setAll (ys := (dvC (.slice (some ⟨g, 0, none⟩) zs.length cp) (dgL zs tv) tpr tst ttk)) rfl)
    have T4 := RZ3.out.thereO 0 12 (by rw [dvZ_len]; omega)
    by_cases h0 : N = 0
    · obtain ⟨an, cpn, rfl⟩ := HNV.out h0
      subst h0
      go_wp2_with fail
      go_loopw [11, 12] (fun s i wr => s = .int .i64 0 ∧ i = .int .i64 0 ∧ wr = W3) (fun _ _ _ => 0)
      case atStart => exact ⟨rfl, rfl, rfl⟩
      case round =>
        obtain ⟨rfl, rfl, hwr⟩ := hrel
        subst hwr
        have R7c := R7b.out
        go_wp2_with (first | ((with_reducible refine wpList_load_row rfl 33 _ rfl g7 ?_ 33 (dvC (.slice (some ⟨g, 0, none⟩) zs.length cp) (dgL zs tv) tpr tst ttk).toArray (0, 0) _ ?_ Tryd.underlying33 ?_ ?_ ?_); rfl; exact R7c; rfl; exact hID) | ((with_reducible refine wpList_store_mid rfl 33 _ _ rfl (w.heap.size + 1) 0 (dvC (.slice (some ⟨g, 0, none⟩) zs.length cp) (dgL zs tv) tpr tst ttk).toArray ?_ ?_ ?_ ?_ (all_oneCell_toArray (dvC_one _ _ _ _ _ _ _)) ?_); rfl; rfl; exact T4; exact hID))
        exact bodyPost_ret (v := .tuple #[.agg (dvC (.slice (some ⟨g, 0, none⟩) zs.length cp) (dgL zs tv) tpr tst ttk).toArray, .int .i64 0, .int .i64 0]) (results_css (p := 4) (q := 5) (r := 6) (fn := Tryd.f18) rfl _ _ _ _ _ _ _ _ rfl rfl rfl N4.out Tryd.underlying33 rfl hID) rfl FIN.out
    · obtain ⟨gn, cpn, rfl, hcell⟩ := HCELL.out (by omega)
      have HC := hid hcell
      have hNN : N ≤ 60 := h60
      clear hcell h0
      go_wp2_with fail
      go_loopw [11, 12] (fun s i wr => ∃ k : Nat, k ≤ N ∧ i = .int .i64 k ∧ s = .int .i64 (suF (szL zs) (v, pr, st, tk) js k) ∧ wr = W3) (fun _ i _ => N - (intOf i).toNat)
      case atStart => exact ⟨0, Nat.zero_le _, rfl, rfl, rfl⟩
      case round =>
        obtain ⟨k, hk, rfl, rfl, hwr⟩ := hrel
        subst hwr
        have k0 : (0 : Int) ≤ (k : Int) := by omega
        by_cases hkn : k < N
        · have k1 : (k : Int) < (N : Int) := by omega
          have x10 := HC.out k hkn
          have e1 : suF (szL zs) (v, pr, st, tk) js (k + 1) = suF (szL zs) (v, pr, st, tk) js k + loF (szL zs) (v, pr, st, tk) js k := rfl
          have s1 := HSU2.out k hk
          have s2 := HSU2.out (k + 1) hkn
          rw [e1] at s2
          obtain ⟨a, ha⟩ : ∃ y, suF (szL zs) (v, pr, st, tk) js k = y := ⟨_, rfl⟩
          obtain ⟨l, hl⟩ : ∃ y, loF (szL zs) (v, pr, st, tk) js k = y := ⟨_, rfl⟩
          rw [ha, hl] at e1 s2
          rw [ha] at s1 ⊢
          rw [hl] at x10
          have HE1 := hid e1
          have wl : IntKind.i64.wrap (a + l) = a + l := IntWalk.i64_in _ (by omega)
          have w1' : IntKind.i64.wrap ((k : Int) + 1) = (k : Int) + 1 := IntWalk.i64_in _ (by omega)
          clear e1 ha hl s1 s2
          go_wp2_with fail
          go_roundw
          case rel => exact ⟨k + 1, by omega, by go_num, by rw [HE1.out], by first | trivial | rfl⟩
          case measure => simp [intOf]; omega
        · obtain rfl : k = N := by omega
          have R7c := R7b.out
          have FO := FIN
          obtain ⟨a, ha⟩ : ∃ y, suF (szL zs) (v, pr, st, tk) js k = y := ⟨_, rfl⟩
          rw [ha] at FO ⊢
          clear FIN ha
          go_wp2_with (first | ((with_reducible refine wpList_load_row rfl 33 _ rfl g7 ?_ 33 (dvC (.slice (some ⟨g, 0, none⟩) zs.length cp) (dgL zs tv) tpr tst ttk).toArray (0, 0) _ ?_ Tryd.underlying33 ?_ ?_ ?_); rfl; exact R7c; rfl; exact hID) | ((with_reducible refine wpList_store_mid rfl 33 _ _ rfl (w.heap.size + 1) 0 (dvC (.slice (some ⟨g, 0, none⟩) zs.length cp) (dgL zs tv) tpr tst ttk).toArray ?_ ?_ ?_ ?_ (all_oneCell_toArray (dvC_one _ _ _ _ _ _ _)) ?_); rfl; rfl; exact T4; exact hID))
          exact bodyPost_ret (v := .tuple #[.agg (dvC (.slice (some ⟨g, 0, none⟩) zs.length cp) (dgL zs tv) tpr tst ttk).toArray, .int .i64 a, .int .i64 0]) (results_css (p := 4) (q := 5) (r := 6) (fn := Tryd.f18) rfl _ _ _ _ _ _ _ _ rfl rfl rfl N4.out Tryd.underlying33 rfl hID) rfl FO.out
  · have HCC := hid hc
    obtain ⟨V2, hV2⟩ : ∃ y, y = w1.alloc (.cells #[.slice none 0 0, .int .u8 0, .int .u8 0, .int .u8 0, .int .u8 0, .int .u8 0, .int .u8 0, .int .u8 0, .int .u8 0, .int .i64 0, .bool false, .int .i64 0] 33) := ⟨_, rfl⟩
    have r7 : Row V2 w1.heap.size 33 dvZ := by rw [hV2]; exact Row.new w1 _ dvZ
    have a2 : Below w1.heap.size w1 V2 := by rw [hV2]; exact (Below.refl _ _).alloc (Nat.le_refl _) _
    have T7 := r7.thereO 0 12 (by rw [dvZ_len]; omega)
    rw [hV2] at T7
    obtain ⟨W3, hW3⟩ : ∃ y, y = V2.setCells w1.heap.size 0 dvZ := ⟨_, rfl⟩
    have r7b : Row W3 w1.heap.size 33 dvZ := by rw [hW3]; exact r7.setAll rfl
    have a3 : Below w1.heap.size w1 W3 := by rw [hW3]; exact below_setCellsD _ 0 _ a2 (Nat.le_refl _)
    have hEQ : World.setCells (w1.alloc (.cells #[.slice none 0 0, .int .u8 0, .int .u8 0, .int .u8 0, .int .u8 0, .int .u8 0, .int .u8 0, .int .u8 0, .int .u8 0, .int .i64 0, .bool false, .int .i64 0] 33)) w1.heap.size 0 dvZ.toArray.toList = W3 := by rw [← hV2]; exact hW3.symm
    have HEQ := hid hEQ
    clear hEQ hW3 hV2 r7 a2
    have rZ := (RZ.out.below hB1 RZ.out.lt).below a3 (Nat.lt_of_lt_of_le RZ.out.lt hB1.size)
    have hB3 := BV.out.trans (hB1.mono BV.out.size)
    have hB4 := hB3.trans (a3.mono hB3.size)
    have N4 := hid (rZ.setAll (ys := dvZ) rfl)
    have T4 := rZ.thereO 0 12 (by rw [dvZ_len]; omega)
    have NB := hid (below_setCellsD (g := w.heap.size + 1) dvZ 0 _ hB4 (by omega))
    obtain ⟨g7, hg7⟩ : ∃ y, y = w1.heap.size := ⟨_, rfl⟩
    have R7 := hid r7b
    clear a3 rZ hB3 hB4 hB1 r7b hc
    go_upto_region 2 with ((with_reducible refine wpList_store_mid rfl 33 _ _ rfl w1.heap.size 0 dvZ.toArray ?_ ?_ ?_ ?_ dvZ_oneT ?_); rfl; rfl; exact T7; exact hID)
    rw [HEQ.out]
    try simp only [Act.put]
    have R7' := R7.out
    rw [← hg7] at R7' ⊢
    have R7b := hid R7'
    clear T7 HEQ hg7 R7 R7'
    go_wp2_with fail
    go_loopw [11, 12] (fun s i wr => s = .int .i64 0 ∧ i = .int .i64 0 ∧ wr = W3) (fun _ _ _ => 0)
    case atStart => exact ⟨rfl, rfl, rfl⟩
    case round =>
      obtain ⟨rfl, rfl, hwr⟩ := hrel
      subst hwr
      have R7c := R7b.out
      go_wp2_with (first | ((with_reducible refine wpList_load_row rfl 33 _ rfl g7 ?_ 33 dvZ.toArray (0, 0) _ ?_ Tryd.underlying33 ?_ ?_ ?_); rfl; exact R7c; rfl; exact hID) | ((with_reducible refine wpList_store_mid rfl 33 _ _ rfl (w.heap.size + 1) 0 dvZ.toArray ?_ ?_ ?_ ?_ dvZ_oneT ?_); rfl; rfl; exact T4; exact hID))
      exact bodyPost_ret (v := .tuple #[.agg dvZ.toArray, .int .i64 0, .int .i64 c]) (results_css (p := 4) (q := 5) (r := 6) (fn := Tryd.f18) rfl _ _ _ _ _ _ _ _ rfl rfl rfl N4.out Tryd.underlying33 rfl hID) rfl (DevO.no HCC.out rfl NB.out)
end Go.Proofs.YthifegbmpmialaaDoor

namespace Go.Proofs.YthifegbmpmialaaDoor
open Go.RowKit
set_option linter.unusedVariables false
set_option linter.unusedSimpArgs false
/-- v is a list of n structs of sz cells, in a block of its own from base on -/
def OwnX (T : TypeId) (sz : Nat) (w : World) (base : Nat) (v : Value) (n : Nat) (xs : List Value) : Prop :=
  ∃ a cap, v = .slice a n cap ∧ n ≤ 1048576 ∧ xs.length = n * sz ∧ (n = 0 ∨ ∃ g rest, a = some ⟨g, 0, none⟩ ∧ base ≤ g ∧ Row w g T (xs ++ rest))
theorem OwnX.of_owns {T : TypeId} {sz : Nat} {w : World} {base n : Nat} {v : Value} {xs : List Value} (h : w.ownsRow base T sz v n xs) (hl : n ≤ 1048576) : OwnX T sz w base v n xs := by
  have h1 := h.1
  by_cases h0 : n = 0
  · rcases h.2 with ⟨rfl, _⟩ | ⟨g, cap, cur, rfl, _⟩
    · subst h0; exact ⟨none, 0, rfl, hl, h1, .inl rfl⟩
    · exact ⟨_, _, rfl, hl, h1, .inl h0⟩
  · obtain ⟨g, cap, rest, e, hb, hr⟩ := owns_row h (by omega)
    exact ⟨_, _, e, hl, h1, .inr ⟨g, rest, rfl, hb, hr⟩⟩
theorem OwnX.nil (T : TypeId) (sz : Nat) (w : World) (base : Nat) (a : Option Addr) (cap : Nat) : OwnX T sz w base (.slice a 0 cap) 0 [] := ⟨a, cap, rfl, by omega, by simp, .inl rfl⟩
theorem OwnX.keep {T : TypeId} {sz : Nat} {w w' : World} {base n : Nat} {v : Value} {xs : List Value} (h : OwnX T sz w base v n xs) (hb : Below w.heap.size w w') : OwnX T sz w' base v n xs := by
  obtain ⟨a, cap, h1, h2, h3, h4⟩ := h
  refine ⟨a, cap, h1, h2, h3, ?_⟩
  rcases h4 with h0 | ⟨g, rest, e, hg, hr⟩
  · exact .inl h0
  · exact .inr ⟨g, rest, e, hg, hr.below hb hr.lt⟩
theorem OwnX.only {T : TypeId} {sz g base n : Nat} {w w' : World} {v : Value} {xs : List Value} (h : OwnX T sz w base v n xs) (o : OnlyB g w w') (hg : g < base) : OwnX T sz w' base v n xs := by
  obtain ⟨a, cap, h1, h2, h3, h4⟩ := h
  refine ⟨a, cap, h1, h2, h3, ?_⟩
  rcases h4 with h0 | ⟨q, rest, e, hq, hr⟩
  · exact .inl h0
  · exact .inr ⟨q, rest, e, hq, o.row hr (by omega)⟩
theorem OwnX.lowb {T : TypeId} {sz : Nat} {w : World} {base b' n : Nat} {v : Value} {xs : List Value} (h : OwnX T sz w base v n xs) (hb : b' ≤ base) : OwnX T sz w b' v n xs := by
  obtain ⟨a, cap, h1, h2, h3, h4⟩ := h
  refine ⟨a, cap, h1, h2, h3, ?_⟩
  rcases h4 with h0 | ⟨q, rest, e, hq, hr⟩
  · exact .inl h0
  · exact .inr ⟨q, rest, e, by omega, hr⟩
/-- the first p cells are marked -/
def mixX (mv : Nat → Value) (xs : List Value) (p : Nat) : List Value := (List.range xs.length).map fun i => if i < p then mv i else xs[i]?.getD undef
theorem mixX_len (mv : Nat → Value) (xs : List Value) (p : Nat) : (mixX mv xs p).length = xs.length := by simp [mixX]
theorem mixX_zero (mv : Nat → Value) (xs : List Value) : mixX mv xs 0 = xs := by
  apply List.ext_getElem?
  intro i
  by_cases h : i < xs.length
  · simp [mixX, h]
  · simp [mixX, h]
theorem mixX_get (mv : Nat → Value) (xs : List Value) (p i : Nat) (h : i < xs.length) (hp : i < p) (rest : List Value) : (mixX mv xs p ++ rest)[i]? = some (mv i) := by
  rw [List.getElem?_append_left (by rw [mixX_len]; exact h)]
  simp [mixX, h, hp]
theorem mixX_set (mv : Nat → Value) (xs rest : List Value) (p : Nat) (h : p < xs.length) : (mixX mv xs p ++ rest).set p (mv p) = mixX mv xs (p + 1) ++ rest := by
  rw [List.set_append_left _ _ (by rw [mixX_len]; exact h)]
  congr 1
  apply List.ext_getElem?
  intro i
  simp only [mixX, List.getElem?_set, List.length_map, List.length_range, List.getElem?_map]
  by_cases hi : p = i
  · subst hi; simp [h]
  · by_cases hl : i < xs.length
    · simp [hi, hl]
      by_cases h2 : i < p
      · simp [h2, show i < p + 1 by omega]
      · simp [h2, show ¬ i < p + 1 by omega]
    · simp [hi, hl]
theorem row_mark {w : World} {g : Nat} {T : TypeId} {mv : Nat → Value} {xs rest : List Value} {p : Nat} {v : Value} (h : Row w g T (mixX mv xs p ++ rest)) (hp : p < xs.length) (hv : mv p = v) : Row (w.setCell ⟨g, p, none⟩ v) g T (mixX mv xs (p + 1) ++ rest) := by
  have := h.set p v
  rw [← hv, mixX_set mv xs rest p hp] at this
  rw [← hv]; exact this
theorem row_some {w : World} {g : Nat} {T : TypeId} {mv : Nat → Value} {xs rest : List Value} {q : Nat} (p : Nat) (h : Row w g T (mixX mv xs q ++ rest)) (hp : p < xs.length) : ∃ u, w.cell? ⟨g, p, none⟩ = some u := ⟨_, (h.cell p).trans (List.getElem?_eq_getElem (by rw [List.length_append, mixX_len]; omega))⟩
/-- the marks alone -/
def mrkX (mv : Nat → Value) (n : Nat) : List Value := (List.range n).map mv
theorem mixX_all (mv : Nat → Value) (xs : List Value) : mixX mv xs xs.length = mrkX mv xs.length := by
  apply List.ext_getElem?
  intro i
  by_cases h : i < xs.length
  · simp [mixX, mrkX, h]
  · simp [mixX, mrkX, h]
theorem mrkX_len (mv : Nat → Value) (n : Nat) : (mrkX mv n).length = n := by simp [mrkX]
theorem mrkX_get (mv : Nat → Value) (n i : Nat) (h : i < n) (rest : List Value) : (mrkX mv n ++ rest)[i]? = some (mv i) := by
  rw [List.getElem?_append_left (by rw [mrkX_len]; exact h)]
  simp [mrkX, h]
def mkx8 (i : Int) : Int := IntKind.i8.wrap i
def mk16 (i : Int) : Int := IntKind.u16.wrap i
def mvNote (p : Nat) : Value := if p % 11 = 0 then .int .i8 (mkx8 (1 + (p : Int))) else if p % 11 = 1 then .int .i64 (1 + (p : Int)) else if p % 11 = 10 then .int .i64 (1 + (p : Int)) else .int .u8 (m8 (1 + (p : Int)))
theorem mvNote_0 (k : Nat) (m : Int) (h : m = 1 + 11 * (k : Int) + 0) : mvNote (k * 11 + 0) = .int .i8 (mkx8 m) := by
  have h1 : (k * 11 + 0) % 11 = 0 := by omega
  have h2 : (1 : Int) + ((k * 11 + 0 : Nat) : Int) = m := by omega
  unfold mvNote
  rw [h1, h2]
  simp
theorem mvNote_1 (k : Nat) (m : Int) (h : m = 1 + 11 * (k : Int) + 1) : mvNote (k * 11 + 1) = .int .i64 m := by
  have h1 : (k * 11 + 1) % 11 = 1 := by omega
  have h2 : (1 : Int) + ((k * 11 + 1 : Nat) : Int) = m := by omega
  unfold mvNote
  rw [h1, h2]
  simp
theorem mvNote_10 (k : Nat) (m : Int) (h : m = 1 + 11 * (k : Int) + 10) : mvNote (k * 11 + 10) = .int .i64 m := by
  have h1 : (k * 11 + 10) % 11 = 10 := by omega
  have h2 : (1 : Int) + ((k * 11 + 10 : Nat) : Int) = m := by omega
  unfold mvNote
  rw [h1, h2]
  simp
theorem mvNote_a (k j : Nat) (hj : j < 8) (m : Int) (h : m = 1 + 11 * (k : Int) + 2 + j) : mvNote (k * 11 + (2 + j)) = .int .u8 (m8 m) := by
  have h1 : (k * 11 + (2 + j)) % 11 = 2 + j := by omega
  have h2 : (1 : Int) + ((k * 11 + (2 + j) : Nat) : Int) = m := by omega
  unfold mvNote
  rw [h1, h2]
  rw [if_neg (by omega)]; rw [if_neg (by omega)]; rw [if_neg (by omega)]
set_option maxRecDepth 100000 in
set_option maxHeartbeats 3000000 in
theorem markNote_own (base : Nat) (v : Value) (n : Nat) (xs : List Value) (w : World) (h : OwnX 87 11 w base v n xs) :
    Calls Tryd.prog 34 #[v, .int .i64 1] w fun e w' => e = .returned (.int .i64 (1 + 11 * (n : Int))) ∧ OwnX 87 11 w' base v n (mrkX mvNote (n * 11)) ∧ Below base w w' ∧ w'.heap.size = w.heap.size := by
  obtain ⟨a, c, rfl, hl, hx, k1⟩ := h
  rcases k1 with hz | ⟨g, rest, rfl, hg, R⟩
  · subst hz
    go_enter Tryd.func34, Tryd.ntmps34
    go_wp2_with fail
    refine wp_loop_rounds 1 ?_
    rw [rounds_succ]
    go_wp2_with fail
    go_ret
    refine ⟨rfl, ⟨a, c, rfl, by omega, by simp [mrkX], .inl rfl⟩, Below.refl _ _, rfl⟩
  · have R0 : Row w g 87 (mixX mvNote xs (0 * 11) ++ rest) := by rw [Nat.zero_mul, mixX_zero]; exact R
    have HX := hid hx
    clear hx R
    go_enter Tryd.func34, Tryd.ntmps34
    go_wp2_with fail
    go_loopw [1, 5] (fun m i wr => ∃ k : Nat, k ≤ n ∧ i = .int .i64 k ∧ m = .int .i64 (1 + 11 * (k : Int)) ∧ Row wr g 87 (mixX mvNote xs (k * 11) ++ rest) ∧ Below base w wr ∧ wr.heap.size = w.heap.size) (fun _ i _ => n - (intOf i).toNat)
    case atStart => exact ⟨0, Nat.zero_le _, rfl, rfl, R0, Below.refl _ _, rfl⟩
    case round =>
      clear R0
      obtain ⟨k, hk, rfl, rfl, hrow, hB, hsz⟩ := hrel
      obtain ⟨wo, rfl⟩ : ∃ z, z = wr := ⟨_, rfl⟩
      have HSZ := hid hsz
      clear hsz
      by_cases hlt : k < n
      · have hlt' : (k : Int) < (n : Int) := by omega
        have hk0 : (0 : Int) ≤ (k : Int) := by omega
        obtain ⟨M, hM⟩ : ∃ y, 1 + 11 * (k : Int) = y := ⟨_, rfl⟩
        have HM := hid hM
        rw [hM]
        have hMb : 0 ≤ M ∧ M ≤ 11534337 := by omega
        clear hM
        have f0 := hrow.frozen (k * 11 + 0)
        obtain ⟨o0, h0⟩ := row_some (k * 11 + 0) hrow (by have := HX.out; omega)
        rw [Nat.add_zero] at f0 h0
        have t0 : IntKind.i8.wrap M = mkx8 M := rfl
        have a0 := mvNote_0 k M (by have := HM.out; omega)
        have f1 := hrow.frozen (k * 11 + 1)
        obtain ⟨o1, h1⟩ := row_some (k * 11 + 1) hrow (by have := HX.out; omega)
        have a1 := mvNote_1 k (M + 1) (by have := HM.out; omega)
        have r0 := row_mark (p := k * 11 + 0) (show Row wo g 87 (mixX mvNote xs (k * 11 + 0) ++ rest) from hrow) (by have := HX.out; omega) a0
        have b0 := hB.setCell (p := ⟨g, k * 11 + 0, none⟩) hg (.int .i8 (mkx8 M))
        have r1 := row_mark (p := k * 11 + 1) r0 (by have := HX.out; omega) a1
        have b1 := b0.setCell (p := ⟨g, k * 11 + 1, none⟩) hg (.int .i64 (M + 1))
        have w1 : IntKind.i64.wrap (M + 1) = M + 1 := IntWalk.i64_in _ (by omega)
        have w2 : IntKind.i64.wrap (M + 1 + 1) = M + 1 + 1 := IntWalk.i64_in _ (by omega)
        have HR := hid r1; have HBB := hid b1
        have HZ2 := hid (show (_ : World).heap.size = w.heap.size from (show ((wo.setCell ⟨g, k * 11 + 0, none⟩ (.int .i8 (mkx8 M))).setCell ⟨g, k * 11 + 1, none⟩ (.int .i64 (M + 1)) : World).heap.size = w.heap.size by simp only [World.size_setCell]; exact HSZ.out))
        clear r0 b0 r1 b1 hrow hB a0 a1
        go_wp2_with fail
        go_loopw [1, 6] (fun m j wr => ∃ r : Nat, r ≤ 8 ∧ j = .int .i64 r ∧ m = .int .i64 (M + 2 + (r : Int)) ∧ Row wr g 87 (mixX mvNote xs (k * 11 + (2 + r)) ++ rest) ∧ Below base w wr ∧ wr.heap.size = w.heap.size) (fun _ j _ => 8 - (intOf j).toNat)
        case atStart => exact ⟨0, by omega, rfl, by first | rfl | (congr 1; omega), HR.out, HBB.out, HZ2.out⟩
        case round =>
          clear f0 h0 f1 h1 HR HBB HZ2
          obtain ⟨r, hr, rfl, rfl, hrow, hB, hsz⟩ := hrel
          have HSZ2 := hid hsz
          clear hsz
          obtain ⟨m, hm⟩ : ∃ y, M + 2 + (r : Int) = y := ⟨_, rfl⟩
          have HM2 := hid hm
          rw [hm]
          have hmb : 0 ≤ m ∧ m ≤ 11534400 := by omega
          clear hm
          by_cases hr8 : r < 8
          · have hr8' : (r : Int) < 8 := by omega
            have hr0 : (0 : Int) ≤ (r : Int) := by omega
            have f1 := hrow.frozen (k * 11 + (2 + r))
            obtain ⟨o1, h1⟩ := row_some (k * 11 + (2 + r)) hrow (by have := HX.out; omega)
            rw [← Nat.add_assoc] at f1 h1
            have a1 := mvNote_a k r hr8 m (by have := HM.out; have := HM2.out; omega)
            have t1 : IntKind.u8.wrap m = m8 m := rfl
            have R3 := hid (row_mark hrow (by have := HX.out; omega) a1)
            have B3 := hid (hB.setCell (p := ⟨g, k * 11 + (2 + r), none⟩) hg (.int .u8 (m8 m)))
            rw [← Nat.add_assoc] at R3 B3
            have w1 : IntKind.i64.wrap (m + 1) = m + 1 := IntWalk.i64_in _ (by omega)
            clear hrow hB a1
            go_wp2_with fail
            go_roundw
            case rel => exact ⟨r + 1, by omega, by go_num, by have := HM2.out; congr 1; omega, by first | exact R3.out | (rw [← Nat.add_assoc]; exact R3.out), B3.out, by simpa using HSZ2.out⟩
            case measure => simp [intOf]; omega
          · obtain rfl : r = 8 := by omega
            have hr8' : ¬ ((8 : Nat) : Int) < 8 := by omega
            have f10 := hrow.frozen (k * 11 + 10)
            obtain ⟨o10, h10⟩ := row_some (k * 11 + 10) hrow (by have := HX.out; omega)
            have a10 := mvNote_10 k m (by have := HM.out; have := HM2.out; omega)
            skip
            have R3 := hid (row_mark (p := k * 11 + 10) hrow (by have := HX.out; omega) a10)
            have B3 := hid (hB.setCell (p := ⟨g, k * 11 + 10, none⟩) hg (.int .i64 m))
            have w1 : IntKind.i64.wrap (m + 1) = m + 1 := IntWalk.i64_in _ (by omega)
            clear hrow hB a10
            go_wp2_with fail
            go_roundw
            case rel => exact ⟨k + 1, by omega, by go_num, by have := HM.out; have := HM2.out; congr 1; omega, by have := R3.out; rw [show (k + 1) * 11 = k * 11 + 10 + 1 by omega]; exact this, B3.out, by simpa using HSZ2.out⟩
            case measure => simp [intOf]; omega
      · obtain rfl : k = n := by omega
        have R3 := hid hrow
        clear hrow
        go_wp2_with fail
        go_ret
        refine ⟨rfl, ⟨some ⟨g, 0, none⟩, c, rfl, hl, by simp [mrkX], .inr ⟨g, rest, rfl, hg, ?_⟩⟩, hB, HSZ.out⟩
        have := R3.out
        rw [← HX.out, mixX_all] at this
        rw [← HX.out]; exact this
set_option maxRecDepth 100000 in
set_option maxHeartbeats 3000000 in
theorem heldNote_own (base : Nat) (v : Value) (n : Nat) (w : World) (h : OwnX 87 11 w base v n (mrkX mvNote (n * 11))) :
    Calls Tryd.prog 35 #[v, .int .i64 1] w fun e w' => e = .returned (.int .i64 (1 + 11 * (n : Int))) ∧ Below w.heap.size w w' := by
  obtain ⟨a, c, rfl, hl, hx, k1⟩ := h
  rcases k1 with hz | ⟨g, rest, rfl, hg, R⟩
  · subst hz
    go_enter Tryd.func35, Tryd.ntmps35
    go_wp2_with fail
    refine wp_loop_rounds 1 ?_
    rw [rounds_succ]
    go_wp2_with fail
    go_ret
    exact ⟨rfl, Below.refl _ _⟩
  · have HC := hid (fun i (hi : i < n * 11) => (R.cell i).trans (mrkX_get mvNote (n * 11) i hi rest))
    clear hx R
    go_enter Tryd.func35, Tryd.ntmps35
    go_wp2_with fail
    go_loopw [1, 5] (fun m i wr => ∃ k : Nat, k ≤ n ∧ i = .int .i64 k ∧ m = .int .i64 (1 + 11 * (k : Int)) ∧ wr = w) (fun _ i _ => n - (intOf i).toNat)
    case atStart => exact ⟨0, Nat.zero_le _, rfl, rfl, rfl⟩
    case round =>
      obtain ⟨k, hk, rfl, rfl, hwr⟩ := hrel
      subst hwr
      obtain ⟨wo, rfl⟩ : ∃ z, z = wr := ⟨_, rfl⟩
      by_cases hlt : k < n
      · have hlt' : (k : Int) < (n : Int) := by omega
        have hk0 : (0 : Int) ≤ (k : Int) := by omega
        obtain ⟨M, hM⟩ : ∃ y, 1 + 11 * (k : Int) = y := ⟨_, rfl⟩
        have HM := hid hM
        rw [hM]
        have hMb : 0 ≤ M ∧ M ≤ 11534337 := by omega
        clear hM
        have c0 := HC.out (k * 11 + 0) (by omega)
        rw [mvNote_0 k M (by have := HM.out; omega)] at c0
        rw [Nat.add_zero] at c0
        have t0 : IntKind.i8.wrap M = mkx8 M := rfl
        have n0 : (mkx8 M != mkx8 M) = false := by simp
        have c1 := HC.out (k * 11 + 1) (by omega)
        rw [mvNote_1 k (M + 1) (by have := HM.out; omega)] at c1
        have n1 : ((M + 1) != (M + 1)) = false := by simp
        have w1 : IntKind.i64.wrap (M + 1) = M + 1 := IntWalk.i64_in _ (by omega)
        have w2 : IntKind.i64.wrap (M + 1 + 1) = M + 1 + 1 := IntWalk.i64_in _ (by omega)
        go_wp2_with fail
        go_loopw [1, 6] (fun m j wr => ∃ r : Nat, r ≤ 8 ∧ j = .int .i64 r ∧ m = .int .i64 (M + 2 + (r : Int)) ∧ wr = wo) (fun _ j _ => 8 - (intOf j).toNat)
        case atStart => exact ⟨0, by omega, rfl, by first | rfl | (congr 1; omega), rfl⟩
        case round =>
          clear c0 n0 c1 n1
          obtain ⟨r, hr, rfl, rfl, hwr⟩ := hrel
          subst hwr
          obtain ⟨m, hm⟩ : ∃ y, M + 2 + (r : Int) = y := ⟨_, rfl⟩
          have HM2 := hid hm
          rw [hm]
          have hmb : 0 ≤ m ∧ m ≤ 11534400 := by omega
          clear hm
          have w1' : IntKind.i64.wrap (m + 1) = m + 1 := IntWalk.i64_in _ (by omega)
          by_cases hr8 : r < 8
          · have hr8' : (r : Int) < 8 := by omega
            have hr0 : (0 : Int) ≤ (r : Int) := by omega
            have c1 := HC.out (k * 11 + (2 + r)) (by omega)
            rw [mvNote_a k r hr8 m (by have := HM.out; have := HM2.out; omega), ← Nat.add_assoc] at c1
            have t1 : IntKind.u8.wrap m = m8 m := rfl
            have n1 : (m8 m != m8 m) = false := by simp
            go_wp2_with fail
            go_roundw
            case rel => exact ⟨r + 1, by omega, by go_num, by have := HM2.out; congr 1; omega, by first | trivial | rfl⟩
            case measure => simp [intOf]; omega
          · obtain rfl : r = 8 := by omega
            have hr8' : ¬ ((8 : Nat) : Int) < 8 := by omega
            have c10 := HC.out (k * 11 + 10) (by omega)
            rw [mvNote_10 k m (by have := HM.out; have := HM2.out; omega)] at c10
            have n10 : (m != m) = false := by simp
            go_wp2_with fail
            go_roundw
            case rel => exact ⟨k + 1, by omega, by go_num, by have := HM.out; have := HM2.out; congr 1; omega, by first | trivial | rfl⟩
            case measure => simp [intOf]; omega
      · obtain rfl : k = n := by omega
        go_wp2_with fail
        go_ret
        exact ⟨rfl, Below.refl _ _⟩
def mvTicket (p : Nat) : Value := if p % 10 = 0 then .int .i64 (1 + (p : Int)) else if p % 10 = 9 then .int .u16 (mk16 (1 + (p : Int))) else .int .u8 (m8 (1 + (p : Int)))
theorem mvTicket_0 (k : Nat) (m : Int) (h : m = 1 + 10 * (k : Int) + 0) : mvTicket (k * 10 + 0) = .int .i64 m := by
  have h1 : (k * 10 + 0) % 10 = 0 := by omega
  have h2 : (1 : Int) + ((k * 10 + 0 : Nat) : Int) = m := by omega
  unfold mvTicket
  rw [h1, h2]
  simp
theorem mvTicket_9 (k : Nat) (m : Int) (h : m = 1 + 10 * (k : Int) + 9) : mvTicket (k * 10 + 9) = .int .u16 (mk16 m) := by
  have h1 : (k * 10 + 9) % 10 = 9 := by omega
  have h2 : (1 : Int) + ((k * 10 + 9 : Nat) : Int) = m := by omega
  unfold mvTicket
  rw [h1, h2]
  simp
theorem mvTicket_a (k j : Nat) (hj : j < 8) (m : Int) (h : m = 1 + 10 * (k : Int) + 1 + j) : mvTicket (k * 10 + (1 + j)) = .int .u8 (m8 m) := by
  have h1 : (k * 10 + (1 + j)) % 10 = 1 + j := by omega
  have h2 : (1 : Int) + ((k * 10 + (1 + j) : Nat) : Int) = m := by omega
  unfold mvTicket
  rw [h1, h2]
  rw [if_neg (by omega)]; rw [if_neg (by omega)]
set_option maxRecDepth 100000 in
set_option maxHeartbeats 3000000 in
theorem markTicket_own (base : Nat) (v : Value) (n : Nat) (xs : List Value) (w : World) (h : OwnX 52 10 w base v n xs) :
    Calls Tryd.prog 29 #[v, .int .i64 1] w fun e w' => e = .returned (.int .i64 (1 + 10 * (n : Int))) ∧ OwnX 52 10 w' base v n (mrkX mvTicket (n * 10)) ∧ Below base w w' ∧ w'.heap.size = w.heap.size := by
  obtain ⟨a, c, rfl, hl, hx, k1⟩ := h
  rcases k1 with hz | ⟨g, rest, rfl, hg, R⟩
  · subst hz
    go_enter Tryd.func29, Tryd.ntmps29
    go_wp2_with fail
    refine wp_loop_rounds 1 ?_
    rw [rounds_succ]
    go_wp2_with fail
    go_ret
    refine ⟨rfl, ⟨a, c, rfl, by omega, by simp [mrkX], .inl rfl⟩, Below.refl _ _, rfl⟩
  · have R0 : Row w g 52 (mixX mvTicket xs (0 * 10) ++ rest) := by rw [Nat.zero_mul, mixX_zero]; exact R
    have HX := hid hx
    clear hx R
    go_enter Tryd.func29, Tryd.ntmps29
    go_wp2_with fail
    go_loopw [1, 5] (fun m i wr => ∃ k : Nat, k ≤ n ∧ i = .int .i64 k ∧ m = .int .i64 (1 + 10 * (k : Int)) ∧ Row wr g 52 (mixX mvTicket xs (k * 10) ++ rest) ∧ Below base w wr ∧ wr.heap.size = w.heap.size) (fun _ i _ => n - (intOf i).toNat)
    case atStart => exact ⟨0, Nat.zero_le _, rfl, rfl, R0, Below.refl _ _, rfl⟩
    case round =>
      clear R0
      obtain ⟨k, hk, rfl, rfl, hrow, hB, hsz⟩ := hrel
      obtain ⟨wo, rfl⟩ : ∃ z, z = wr := ⟨_, rfl⟩
      have HSZ := hid hsz
      clear hsz
      by_cases hlt : k < n
      · have hlt' : (k : Int) < (n : Int) := by omega
        have hk0 : (0 : Int) ≤ (k : Int) := by omega
        obtain ⟨M, hM⟩ : ∃ y, 1 + 10 * (k : Int) = y := ⟨_, rfl⟩
        have HM := hid hM
        rw [hM]
        have hMb : 0 ≤ M ∧ M ≤ 11534337 := by omega
        clear hM
        have f0 := hrow.frozen (k * 10 + 0)
        obtain ⟨o0, h0⟩ := row_some (k * 10 + 0) hrow (by have := HX.out; omega)
        rw [Nat.add_zero] at f0 h0
        have a0 := mvTicket_0 k M (by have := HM.out; omega)
        have r0 := row_mark (p := k * 10 + 0) (show Row wo g 52 (mixX mvTicket xs (k * 10 + 0) ++ rest) from hrow) (by have := HX.out; omega) a0
        have b0 := hB.setCell (p := ⟨g, k * 10 + 0, none⟩) hg (.int .i64 M)
        have w1 : IntKind.i64.wrap (M + 1) = M + 1 := IntWalk.i64_in _ (by omega)
        have HR := hid r0; have HBB := hid b0
        have HZ2 := hid (show (_ : World).heap.size = w.heap.size from (show (wo.setCell ⟨g, k * 10 + 0, none⟩ (.int .i64 M) : World).heap.size = w.heap.size by simp only [World.size_setCell]; exact HSZ.out))
        clear r0 b0 hrow hB a0
        go_wp2_with fail
        go_loopw [1, 6] (fun m j wr => ∃ r : Nat, r ≤ 8 ∧ j = .int .i64 r ∧ m = .int .i64 (M + 1 + (r : Int)) ∧ Row wr g 52 (mixX mvTicket xs (k * 10 + (1 + r)) ++ rest) ∧ Below base w wr ∧ wr.heap.size = w.heap.size) (fun _ j _ => 8 - (intOf j).toNat)
        case atStart => exact ⟨0, by omega, rfl, by first | rfl | (congr 1; omega), HR.out, HBB.out, HZ2.out⟩
        case round =>
          clear f0 h0 HR HBB HZ2
          obtain ⟨r, hr, rfl, rfl, hrow, hB, hsz⟩ := hrel
          have HSZ2 := hid hsz
          clear hsz
          obtain ⟨m, hm⟩ : ∃ y, M + 1 + (r : Int) = y := ⟨_, rfl⟩
          have HM2 := hid hm
          rw [hm]
          have hmb : 0 ≤ m ∧ m ≤ 11534400 := by omega
          clear hm
          by_cases hr8 : r < 8
          · have hr8' : (r : Int) < 8 := by omega
            have hr0 : (0 : Int) ≤ (r : Int) := by omega
            have f1 := hrow.frozen (k * 10 + (1 + r))
            obtain ⟨o1, h1⟩ := row_some (k * 10 + (1 + r)) hrow (by have := HX.out; omega)
            rw [← Nat.add_assoc] at f1 h1
            have a1 := mvTicket_a k r hr8 m (by have := HM.out; have := HM2.out; omega)
            have t1 : IntKind.u8.wrap m = m8 m := rfl
            have R3 := hid (row_mark hrow (by have := HX.out; omega) a1)
            have B3 := hid (hB.setCell (p := ⟨g, k * 10 + (1 + r), none⟩) hg (.int .u8 (m8 m)))
            rw [← Nat.add_assoc] at R3 B3
            have w1 : IntKind.i64.wrap (m + 1) = m + 1 := IntWalk.i64_in _ (by omega)
            clear hrow hB a1
            go_wp2_with fail
            go_roundw
            case rel => exact ⟨r + 1, by omega, by go_num, by have := HM2.out; congr 1; omega, by first | exact R3.out | (rw [← Nat.add_assoc]; exact R3.out), B3.out, by simpa using HSZ2.out⟩
            case measure => simp [intOf]; omega
          · obtain rfl : r = 8 := by omega
            have hr8' : ¬ ((8 : Nat) : Int) < 8 := by omega
            have f9 := hrow.frozen (k * 10 + 9)
            obtain ⟨o9, h9⟩ := row_some (k * 10 + 9) hrow (by have := HX.out; omega)
            have a9 := mvTicket_9 k m (by have := HM.out; have := HM2.out; omega)
            have t9 : IntKind.u16.wrap m = mk16 m := rfl
            have R3 := hid (row_mark (p := k * 10 + 9) hrow (by have := HX.out; omega) a9)
            have B3 := hid (hB.setCell (p := ⟨g, k * 10 + 9, none⟩) hg (.int .u16 (mk16 m)))
            have w1 : IntKind.i64.wrap (m + 1) = m + 1 := IntWalk.i64_in _ (by omega)
            clear hrow hB a9
            go_wp2_with fail
            go_roundw
            case rel => exact ⟨k + 1, by omega, by go_num, by have := HM.out; have := HM2.out; congr 1; omega, by have := R3.out; rw [show (k + 1) * 10 = k * 10 + 9 + 1 by omega]; exact this, B3.out, by simpa using HSZ2.out⟩
            case measure => simp [intOf]; omega
      · obtain rfl : k = n := by omega
        have R3 := hid hrow
        clear hrow
        go_wp2_with fail
        go_ret
        refine ⟨rfl, ⟨some ⟨g, 0, none⟩, c, rfl, hl, by simp [mrkX], .inr ⟨g, rest, rfl, hg, ?_⟩⟩, hB, HSZ.out⟩
        have := R3.out
        rw [← HX.out, mixX_all] at this
        rw [← HX.out]; exact this
set_option maxRecDepth 100000 in
set_option maxHeartbeats 3000000 in
theorem heldTicket_own (base : Nat) (v : Value) (n : Nat) (w : World) (h : OwnX 52 10 w base v n (mrkX mvTicket (n * 10))) :
    Calls Tryd.prog 30 #[v, .int .i64 1] w fun e w' => e = .returned (.int .i64 (1 + 10 * (n : Int))) ∧ Below w.heap.size w w' := by
  obtain ⟨a, c, rfl, hl, hx, k1⟩ := h
  rcases k1 with hz | ⟨g, rest, rfl, hg, R⟩
  · subst hz
    go_enter Tryd.func30, Tryd.ntmps30
    go_wp2_with fail
    refine wp_loop_rounds 1 ?_
    rw [rounds_succ]
    go_wp2_with fail
    go_ret
    exact ⟨rfl, Below.refl _ _⟩
  · have HC := hid (fun i (hi : i < n * 10) => (R.cell i).trans (mrkX_get mvTicket (n * 10) i hi rest))
    clear hx R
    go_enter Tryd.func30, Tryd.ntmps30
    go_wp2_with fail
    go_loopw [1, 5] (fun m i wr => ∃ k : Nat, k ≤ n ∧ i = .int .i64 k ∧ m = .int .i64 (1 + 10 * (k : Int)) ∧ wr = w) (fun _ i _ => n - (intOf i).toNat)
    case atStart => exact ⟨0, Nat.zero_le _, rfl, rfl, rfl⟩
    case round =>
      obtain ⟨k, hk, rfl, rfl, hwr⟩ := hrel
      subst hwr
      obtain ⟨wo, rfl⟩ : ∃ z, z = wr := ⟨_, rfl⟩
      by_cases hlt : k < n
      · have hlt' : (k : Int) < (n : Int) := by omega
        have hk0 : (0 : Int) ≤ (k : Int) := by omega
        obtain ⟨M, hM⟩ : ∃ y, 1 + 10 * (k : Int) = y := ⟨_, rfl⟩
        have HM := hid hM
        rw [hM]
        have hMb : 0 ≤ M ∧ M ≤ 11534337 := by omega
        clear hM
        have c0 := HC.out (k * 10 + 0) (by omega)
        rw [mvTicket_0 k M (by have := HM.out; omega)] at c0
        rw [Nat.add_zero] at c0
        have n0 : (M != M) = false := by simp
        have w1 : IntKind.i64.wrap (M + 1) = M + 1 := IntWalk.i64_in _ (by omega)
        go_wp2_with fail
        go_loopw [1, 6] (fun m j wr => ∃ r : Nat, r ≤ 8 ∧ j = .int .i64 r ∧ m = .int .i64 (M + 1 + (r : Int)) ∧ wr = wo) (fun _ j _ => 8 - (intOf j).toNat)
        case atStart => exact ⟨0, by omega, rfl, by first | rfl | (congr 1; omega), rfl⟩
        case round =>
          clear c0 n0
          obtain ⟨r, hr, rfl, rfl, hwr⟩ := hrel
          subst hwr
          obtain ⟨m, hm⟩ : ∃ y, M + 1 + (r : Int) = y := ⟨_, rfl⟩
          have HM2 := hid hm
          rw [hm]
          have hmb : 0 ≤ m ∧ m ≤ 11534400 := by omega
          clear hm
          have w1' : IntKind.i64.wrap (m + 1) = m + 1 := IntWalk.i64_in _ (by omega)
          by_cases hr8 : r < 8
          · have hr8' : (r : Int) < 8 := by omega
            have hr0 : (0 : Int) ≤ (r : Int) := by omega
            have c1 := HC.out (k * 10 + (1 + r)) (by omega)
            rw [mvTicket_a k r hr8 m (by have := HM.out; have := HM2.out; omega), ← Nat.add_assoc] at c1
            have t1 : IntKind.u8.wrap m = m8 m := rfl
            have n1 : (m8 m != m8 m) = false := by simp
            go_wp2_with fail
            go_roundw
            case rel => exact ⟨r + 1, by omega, by go_num, by have := HM2.out; congr 1; omega, by first | trivial | rfl⟩
            case measure => simp [intOf]; omega
          · obtain rfl : r = 8 := by omega
            have hr8' : ¬ ((8 : Nat) : Int) < 8 := by omega
            have c9 := HC.out (k * 10 + 9) (by omega)
            rw [mvTicket_9 k m (by have := HM.out; have := HM2.out; omega)] at c9
            have t9 : IntKind.u16.wrap m = mk16 m := rfl
            have n9 : (mk16 m != mk16 m) = false := by simp
            go_wp2_with fail
            go_roundw
            case rel => exact ⟨k + 1, by omega, by go_num, by have := HM.out; have := HM2.out; congr 1; omega, by first | trivial | rfl⟩
            case measure => simp [intOf]; omega
      · obtain rfl : k = n := by omega
        go_wp2_with fail
        go_ret
        exact ⟨rfl, Below.refl _ _⟩
end Go.Proofs.YthifegbmpmialaaDoor

namespace Go.Proofs.YthifegbmpmialaaDoor
open Go.RowKit
set_option linter.unusedVariables false
set_option linter.unusedSimpArgs false
set_option maxHeartbeats 2000000 in
theorem eqTicket_same (n d0 d1 d2 d3 d4 d5 d6 d7 c : Int) (w : World) :
    Calls Tryd.prog 25 #[.agg #[.int .i64 n, .int .u8 d0, .int .u8 d1, .int .u8 d2, .int .u8 d3, .int .u8 d4, .int .u8 d5, .int .u8 d6, .int .u8 d7, .int .u16 c], .agg #[.int .i64 n, .int .u8 d0, .int .u8 d1, .int .u8 d2, .int .u8 d3, .int .u8 d4, .int .u8 d5, .int .u8 d6, .int .u8 d7, .int .u16 c]] w fun e w' => e = .returned (.bool true) ∧ Below w.heap.size w w' := by
  obtain ⟨TC, hTC⟩ : ∃ t, t = #[Value.int .i64 n, .int .u8 d0, .int .u8 d1, .int .u8 d2, .int .u8 d3, .int .u8 d4, .int .u8 d5, .int .u8 d6, .int .u8 d7, .int .u16 c] := ⟨_, rfl⟩
  obtain ⟨W, hW⟩ : ∃ W, W = (w.alloc (.cells TC 52)).alloc (.cells TC 52) := ⟨_, rfl⟩
  have bel : Below w.heap.size w W := by rw [hW]; exact ((Below.refl _ w).alloc (Nat.le_refl _) _).alloc (by simp) _
  have r1 : Row W w.heap.size 52 TC.toList := by rw [hW]; exact (Row.new w _ _).alloc _
  have r2 : Row W (w.heap.size + 1) 52 TC.toList := by
    have h := Row.new (w.alloc (.cells TC 52)) 52 TC.toList
    simp only [World.size_alloc] at h
    rw [hW]; exact h
  have n1 : (n != n) = false := by simp
  have n2 : (c != c) = false := by simp
  rw [hTC] at r1 r2 hW
  have R1 := hid r1
  have R2 := hid r2
  have l1 := r1.lt
  have l2 := r2.lt
  have BE := hid bel
  have HW := hid hW
  have p0 := r1.cell 0; have q0 := r2.cell 0; have p1 := r1.cell 1; have q1 := r2.cell 1; have p2 := r1.cell 2; have q2 := r2.cell 2; have p3 := r1.cell 3; have q3 := r2.cell 3; have p4 := r1.cell 4; have q4 := r2.cell 4; have p5 := r1.cell 5; have q5 := r2.cell 5; have p6 := r1.cell 6; have q6 := r2.cell 6; have p7 := r1.cell 7; have q7 := r2.cell 7; have p8 := r1.cell 8; have q8 := r2.cell 8; have p9 := r1.cell 9; have q9 := r2.cell 9
  simp only [List.getElem?_cons_zero, List.getElem?_cons_succ] at p0 q0 p1 q1 p2 q2 p3 q3 p4 q4 p5 q5 p6 q6 p7 q7 p8 q8 p9 q9
  clear r1 r2 bel hW hTC
  go_enter Tryd.func25, Tryd.ntmps25
  go_upto_region 1 with fail
  rw [← HW.out]
  go_wp2_with fail
  refine (eqDigits_same _ _ _ _ _ _ _ _ _).mono ?_
  rintro e w1 ⟨rfl, hB1⟩
  have s1 := R1.out.below hB1 l1
  have s2 := R2.out.below hB1 l2
  clear p0 q0 p1 q1 p2 q2 p3 q3 p4 q4 p5 q5 p6 q6 p7 q7 p8 q8 p9 q9
  have p9 := s1.cell 9; have q9 := s2.cell 9
  simp only [List.getElem?_cons_zero, List.getElem?_cons_succ] at p9 q9
  clear s1 s2
  go_wp2_with fail
  go_ret
  exact ⟨rfl, BE.out.trans (hB1.mono BE.out.size)⟩
set_option maxRecDepth 100000 in
set_option maxHeartbeats 2000000 in
theorem eqNote_same (k x d0 d1 d2 d3 d4 d5 d6 d7 l : Int) (w : World) :
    Calls Tryd.prog 56 #[.agg #[.int .i8 k, .int .i64 x, .int .u8 d0, .int .u8 d1, .int .u8 d2, .int .u8 d3, .int .u8 d4, .int .u8 d5, .int .u8 d6, .int .u8 d7, .int .i64 l], .agg #[.int .i8 k, .int .i64 x, .int .u8 d0, .int .u8 d1, .int .u8 d2, .int .u8 d3, .int .u8 d4, .int .u8 d5, .int .u8 d6, .int .u8 d7, .int .i64 l]] w fun e w' => e = .returned (.bool true) ∧ Below w.heap.size w w' := by
  obtain ⟨TC, hTC⟩ : ∃ t, t = #[Value.int .i8 k, .int .i64 x, .int .u8 d0, .int .u8 d1, .int .u8 d2, .int .u8 d3, .int .u8 d4, .int .u8 d5, .int .u8 d6, .int .u8 d7, .int .i64 l] := ⟨_, rfl⟩
  obtain ⟨W, hW⟩ : ∃ W, W = (w.alloc (.cells TC 87)).alloc (.cells TC 87) := ⟨_, rfl⟩
  have bel : Below w.heap.size w W := by rw [hW]; exact ((Below.refl _ w).alloc (Nat.le_refl _) _).alloc (by simp) _
  have r1 : Row W w.heap.size 87 TC.toList := by rw [hW]; exact (Row.new w _ _).alloc _
  have r2 : Row W (w.heap.size + 1) 87 TC.toList := by
    have h := Row.new (w.alloc (.cells TC 87)) 87 TC.toList
    simp only [World.size_alloc] at h
    rw [hW]; exact h
  have n1 : (l != l) = false := by simp
  rw [hTC] at r1 r2 hW
  have R1 := hid r1
  have R2 := hid r2
  have l1 := r1.lt
  have l2 := r2.lt
  have BE := hid bel
  have HW := hid hW
  have p0 := r1.cell 0; have p1 := r1.cell 1; have p2 := r1.cell 2; have p3 := r1.cell 3; have p4 := r1.cell 4; have p5 := r1.cell 5; have p6 := r1.cell 6; have p7 := r1.cell 7; have p8 := r1.cell 8; have p9 := r1.cell 9; have p10 := r1.cell 10; have q0 := r2.cell 0; have q1 := r2.cell 1; have q2 := r2.cell 2; have q3 := r2.cell 3; have q4 := r2.cell 4; have q5 := r2.cell 5; have q6 := r2.cell 6; have q7 := r2.cell 7; have q8 := r2.cell 8; have q9 := r2.cell 9; have q10 := r2.cell 10
  simp only [List.getElem?_cons_zero, List.getElem?_cons_succ] at p0 p1 p2 p3 p4 p5 p6 p7 p8 p9 p10 q0 q1 q2 q3 q4 q5 q6 q7 q8 q9 q10
  clear r1 r2 bel hW hTC
  go_enter Tryd.func56, Tryd.ntmps56
  go_upto_region 1 with fail
  rw [← HW.out]
  go_wp2_with fail
  refine (eqAct_same k x _).mono ?_
  rintro e w1 ⟨rfl, hB1⟩
  have s1 := R1.out.below hB1 l1
  have s2 := R2.out.below hB1 l2
  clear p0 p1 p2 p3 p4 p5 p6 p7 p8 p9 p10 q0 q1 q2 q3 q4 q5 q6 q7 q8 q9 q10
  have p0 := s1.cell 0; have p1 := s1.cell 1; have p2 := s1.cell 2; have p3 := s1.cell 3; have p4 := s1.cell 4; have p5 := s1.cell 5; have p6 := s1.cell 6; have p7 := s1.cell 7; have p8 := s1.cell 8; have p9 := s1.cell 9; have p10 := s1.cell 10; have q0 := s2.cell 0; have q1 := s2.cell 1; have q2 := s2.cell 2; have q3 := s2.cell 3; have q4 := s2.cell 4; have q5 := s2.cell 5; have q6 := s2.cell 6; have q7 := s2.cell 7; have q8 := s2.cell 8; have q9 := s2.cell 9; have q10 := s2.cell 10
  simp only [List.getElem?_cons_zero, List.getElem?_cons_succ] at p0 p1 p2 p3 p4 p5 p6 p7 p8 p9 p10 q0 q1 q2 q3 q4 q5 q6 q7 q8 q9 q10
  go_wp2_with fail
  refine (eqDigits_same _ _ _ _ _ _ _ _ _).mono ?_
  rintro e w2 ⟨rfl, hB2⟩
  replace s1 := s1.below hB2 s1.lt
  replace s2 := s2.below hB2 s2.lt
  clear p0 p1 p2 p3 p4 p5 p6 p7 p8 p9 p10 q0 q1 q2 q3 q4 q5 q6 q7 q8 q9 q10
  have p10 := s1.cell 10; have q10 := s2.cell 10
  simp only [List.getElem?_cons_zero, List.getElem?_cons_succ] at p10 q10
  clear s1 s2
  go_wp2_with fail
  go_ret
  exact ⟨rfl, (BE.out.trans (hB1.mono BE.out.size)).trans (hB2.mono (BE.out.trans (hB1.mono BE.out.size)).size)⟩
theorem row_range {w : World} {g sz n k : Nat} {T : TypeId} {F : Nat → List Value} (hm : ∀ i, (F i).length = sz) {rest : List Value} (h : Row w g T (((List.range n).map F).flatten ++ rest)) (hk : k < n) : w.rangeAt g (k * sz) (F k) := fun j v hj => by
  have hl : j < sz := by have := (List.getElem?_eq_some_iff.1 hj).1; rw [hm] at this; exact this
  obtain ⟨hL, hG⟩ := flat_get hm n
  rw [h.cell (k * sz + j), List.getElem?_append_left (by rw [hL]; have := Nat.mul_le_mul_right sz (show k + 1 ≤ n from hk); rw [Nat.add_mul, Nat.one_mul] at this; omega), hG k j hk hl]
  exact hj
theorem Tryd.infoXNote : (Tryd.prog.info? 87).map (·.size) = some 11 := by kernel_rfl
set_option maxHeartbeats 1000000 in
theorem eqNote_nil (a1 a2 : Option Addr) (c1 c2 : Nat) (w : World) : Calls Tryd.prog 33 #[.slice a1 0 c1, .slice a2 0 c2] w (GivesB w (.bool true)) := by
  go_enter Tryd.func33, Tryd.ntmps33
  go_wp2_with fail
  refine wp_loop_rounds 1 ?_
  rw [rounds_succ]
  go_wp2_with fail
  go_ret
  exact ⟨rfl, Below.refl _ _⟩
set_option maxRecDepth 100000 in
set_option maxHeartbeats 2000000 in
theorem eqNote_own (F : Nat → List Value) (hF : ∀ i, (F i).length = 11) (hE : ∀ k W, Calls Tryd.prog 56 #[.agg (F k).toArray, .agg (F k).toArray] W (GivesB W (.bool true))) (b1 b2 : Nat) (v1 v2 : Value) (n : Nat) (w : World) (h1 : OwnX 87 11 w b1 v1 n (((List.range n).map F).flatten)) (h2 : OwnX 87 11 w b2 v2 n (((List.range n).map F).flatten)) :
    Calls Tryd.prog 33 #[v1, v2] w (GivesB w (.bool true)) := by
  obtain ⟨a1, c1, rfl, hl, _, k1⟩ := h1
  obtain ⟨a2, c2, rfl, _, _, k2⟩ := h2
  rcases k1 with hz | ⟨g1, r1, rfl, _, R1⟩
  · subst hz
    exact eqNote_nil _ _ _ _ w
  · rcases k2 with hz | ⟨g2, r2, rfl, _, R2⟩
    · subst hz
      exact eqNote_nil _ _ _ _ w
    · have HF := hid hF; have HE := hid hE; have R1 := hid R1; have R2 := hid R2
      have HI2 := hid (fun k => show (Tryd.prog.info? 87).map (·.size) = some (F k).length by rw [hF]; exact Tryd.infoXNote)
      have hne : ((n : Int) != (n : Int)) = false := by simp
      clear hF hE
      go_enter Tryd.func33, Tryd.ntmps33
      go_wp2_with fail
      go_loopw [5] (fun i wr => ∃ k : Nat, k ≤ n ∧ i = .int .i64 k ∧ Below w.heap.size w wr) (fun i _ => n - (intOf i).toNat)
      case atStart => exact ⟨0, Nat.zero_le _, rfl, Below.refl _ _⟩
      case round =>
        obtain ⟨k, hk, rfl, hB⟩ := hrel
        by_cases hlt : k < n
        · have hlt' : (k : Int) < (n : Int) := by omega
          have hk0 : (0 : Int) ≤ (k : Int) := by omega
          have w1' : IntKind.i64.wrap ((k : Int) + 1) = (k : Int) + 1 := IntWalk.i64_in _ (by omega)
          go_upto_region 6 with fail
          refine wp_region_held (S := fun W' : World => W'.rangeAt g1 (k * 11) (F k) ∧ W'.rangeAt g2 (k * 11) (F k)) (by kernel_rfl) ?_
          change wpAnyH _ _ _ _ _ _ _ _ (World.drew _)
          obtain ⟨W0, hW0⟩ : ∃ X, X = World.drew wr := ⟨_, rfl⟩
          have hD0 : Below wr.heap.size wr W0 := by rw [hW0]; exact (Below.refl _ _).drew
          rw [← hW0]
          clear hW0
          have RR1 := row_range HF.out (R1.out.below (hB.trans (hD0.mono hB.size)) R1.out.lt) hlt
          have RR2 := row_range HF.out (R2.out.below (hB.trans (hD0.mono hB.size)) R2.out.lt) hlt
          have hS0 : (fun W' : World => W'.rangeAt g1 (k * 11) (F k) ∧ W'.rangeAt g2 (k * 11) (F k)) W0 := ⟨RR1, RR2⟩
          refine wpAnyH_takeD (some 17) (i := 0) (v := ?_) rfl rfl (by kernel_rfl) (by kernel_rfl) (by kernel_rfl) (fun _ _ _ h => h) (.inl ⟨by kernel_rfl, ?_⟩) hS0 ?_
          rotate_left
          · intro w' hw'; clear hw'; go_simp; try with_reducible rfl
          try simp only [Act.put, List.setIfInBounds_toArray, List.set_cons_zero, List.set_cons_succ]
          refine wpAnyH_takeD (some 18) (i := 1) (v := ?_) rfl rfl (by kernel_rfl) (by kernel_rfl) (by kernel_rfl) (fun _ _ _ h => h) (.inl ⟨by kernel_rfl, ?_⟩) hS0 ?_
          rotate_left
          · intro w' hw'; clear hw'; go_simp; try with_reducible rfl
          try simp only [Act.put, List.setIfInBounds_toArray, List.set_cons_zero, List.set_cons_succ]
          refine wpAnyH_takeD (some 19) (i := 2) (v := ?_) rfl rfl (by kernel_rfl) (by kernel_rfl) (by kernel_rfl) (fun _ _ _ h => h) (.inl ⟨by kernel_rfl, ?_⟩) hS0 ?_
          rotate_left
          · intro w' hw'; clear hw'; go_simp; try with_reducible rfl
          try simp only [Act.put, List.setIfInBounds_toArray, List.set_cons_zero, List.set_cons_succ]
          refine wpAnyH_takeD (some 20) (i := 3) (v := .agg (F k).toArray) rfl rfl (by kernel_rfl) (by kernel_rfl) (by kernel_rfl) (fun _ _ _ h => h) (.inl ⟨by kernel_rfl, ?_⟩) hS0 ?_
          · intro w' hw'; exact exec_load_mid 87 _ rfl g1 (k * 11) rfl (F k) _ hw'.1 Tryd.underlying87 rfl (HI2.out k)
          try simp only [Act.put, List.setIfInBounds_toArray, List.set_cons_zero, List.set_cons_succ]
          refine wpAnyH_takeD (some 21) (i := 4) (v := ?_) rfl rfl (by kernel_rfl) (by kernel_rfl) (by kernel_rfl) (fun _ _ _ h => h) (.inl ⟨by kernel_rfl, ?_⟩) hS0 ?_
          rotate_left
          · intro w' hw'; clear hw'; go_simp; try with_reducible rfl
          try simp only [Act.put, List.setIfInBounds_toArray, List.set_cons_zero, List.set_cons_succ]
          refine wpAnyH_takeD (some 22) (i := 5) (v := ?_) rfl rfl (by kernel_rfl) (by kernel_rfl) (by kernel_rfl) (fun _ _ _ h => h) (.inl ⟨by kernel_rfl, ?_⟩) hS0 ?_
          rotate_left
          · intro w' hw'; clear hw'; go_simp; try with_reducible rfl
          try simp only [Act.put, List.setIfInBounds_toArray, List.set_cons_zero, List.set_cons_succ]
          refine wpAnyH_takeD (some 23) (i := 6) (v := ?_) rfl rfl (by kernel_rfl) (by kernel_rfl) (by kernel_rfl) (fun _ _ _ h => h) (.inl ⟨by kernel_rfl, ?_⟩) hS0 ?_
          rotate_left
          · intro w' hw'; clear hw'; go_simp; try with_reducible rfl
          try simp only [Act.put, List.setIfInBounds_toArray, List.set_cons_zero, List.set_cons_succ]
          refine wpAnyH_takeD (some 24) (i := 7) (v := .agg (F k).toArray) rfl rfl (by kernel_rfl) (by kernel_rfl) (by kernel_rfl) (fun _ _ _ h => h) (.inl ⟨by kernel_rfl, ?_⟩) hS0 ?_
          · intro w' hw'; exact exec_load_mid 87 _ rfl g2 (k * 11) rfl (F k) _ hw'.2 Tryd.underlying87 rfl (HI2.out k)
          try simp only [Act.put, List.setIfInBounds_toArray, List.set_cons_zero, List.set_cons_succ]
          refine wpAnyH_all (rs := [8]) (by kernel_rfl) (by simp) ?_
          intro i hi; simp only [List.mem_cons, List.not_mem_nil, or_false] at hi
          subst hi
          refine wpOp_step rfl (fun K hK => ?_)
          go_simp
          with_reducible refine (HE.out k W0).mono ?_
          rintro e w2 ⟨rfl, hB2⟩
          have RR1 := row_range HF.out (R1.out.below ((hB.trans (hD0.mono hB.size)).trans (hB2.mono (hB.trans (hD0.mono hB.size)).size)) R1.out.lt) hlt
          have RR2 := row_range HF.out (R2.out.below ((hB.trans (hD0.mono hB.size)).trans (hB2.mono (hB.trans (hD0.mono hB.size)).size)) R2.out.lt) hlt
          have hS2 : (fun W' : World => W'.rangeAt g1 (k * 11) (F k) ∧ W'.rangeAt g2 (k * 11) (F k)) w2 := ⟨RR1, RR2⟩
          refine hK _ _ ⟨hS2, ?_⟩
          try simp only [Act.put, List.setIfInBounds_toArray, List.set_cons_zero, List.set_cons_succ]
          clear hK K
          refine wpAnyH_takeD (some 26) (i := 9) (v := ?_) rfl rfl (by kernel_rfl) (by kernel_rfl) (by kernel_rfl) (fun _ _ _ h => h) (.inl ⟨by kernel_rfl, ?_⟩) hS2 ?_
          rotate_left
          · intro w' hw'; clear hw'; go_simp; try with_reducible rfl
          try simp only [Act.put, List.setIfInBounds_toArray, List.set_cons_zero, List.set_cons_succ]
          refine wpAnyH_done (by kernel_rfl) ?_ _
          have BB := hid ((hB.trans (hD0.mono hB.size)).trans (hB2.mono (hB.trans (hD0.mono hB.size)).size))
          clear hB hB2 hD0 RR1 RR2
          go_wp2_with fail
          go_roundw
          case rel => exact ⟨k + 1, by omega, by go_num, BB.out⟩
          case measure => simp [intOf]; omega
        · obtain rfl : k = n := by omega
          go_wp2_with fail
          go_ret
          exact ⟨rfl, hB⟩
theorem Tryd.infoXTicket : (Tryd.prog.info? 52).map (·.size) = some 10 := by kernel_rfl
set_option maxHeartbeats 1000000 in
theorem eqTicket_nil (a1 a2 : Option Addr) (c1 c2 : Nat) (w : World) : Calls Tryd.prog 28 #[.slice a1 0 c1, .slice a2 0 c2] w (GivesB w (.bool true)) := by
  go_enter Tryd.func28, Tryd.ntmps28
  go_wp2_with fail
  refine wp_loop_rounds 1 ?_
  rw [rounds_succ]
  go_wp2_with fail
  go_ret
  exact ⟨rfl, Below.refl _ _⟩
set_option maxRecDepth 100000 in
set_option maxHeartbeats 2000000 in
theorem eqTicket_own (F : Nat → List Value) (hF : ∀ i, (F i).length = 10) (hE : ∀ k W, Calls Tryd.prog 25 #[.agg (F k).toArray, .agg (F k).toArray] W (GivesB W (.bool true))) (b1 b2 : Nat) (v1 v2 : Value) (n : Nat) (w : World) (h1 : OwnX 52 10 w b1 v1 n (((List.range n).map F).flatten)) (h2 : OwnX 52 10 w b2 v2 n (((List.range n).map F).flatten)) :
    Calls Tryd.prog 28 #[v1, v2] w (GivesB w (.bool true)) := by
  obtain ⟨a1, c1, rfl, hl, _, k1⟩ := h1
  obtain ⟨a2, c2, rfl, _, _, k2⟩ := h2
  rcases k1 with hz | ⟨g1, r1, rfl, _, R1⟩
  · subst hz
    exact eqTicket_nil _ _ _ _ w
  · rcases k2 with hz | ⟨g2, r2, rfl, _, R2⟩
    · subst hz
      exact eqTicket_nil _ _ _ _ w
    · have HF := hid hF; have HE := hid hE; have R1 := hid R1; have R2 := hid R2
      have HI2 := hid (fun k => show (Tryd.prog.info? 52).map (·.size) = some (F k).length by rw [hF]; exact Tryd.infoXTicket)
      have hne : ((n : Int) != (n : Int)) = false := by simp
      clear hF hE
      go_enter Tryd.func28, Tryd.ntmps28
      go_wp2_with fail
      go_loopw [5] (fun i wr => ∃ k : Nat, k ≤ n ∧ i = .int .i64 k ∧ Below w.heap.size w wr) (fun i _ => n - (intOf i).toNat)
      case atStart => exact ⟨0, Nat.zero_le _, rfl, Below.refl _ _⟩
      case round =>
        obtain ⟨k, hk, rfl, hB⟩ := hrel
        by_cases hlt : k < n
        · have hlt' : (k : Int) < (n : Int) := by omega
          have hk0 : (0 : Int) ≤ (k : Int) := by omega
          have w1' : IntKind.i64.wrap ((k : Int) + 1) = (k : Int) + 1 := IntWalk.i64_in _ (by omega)
          go_upto_region 6 with fail
          refine wp_region_held (S := fun W' : World => W'.rangeAt g1 (k * 10) (F k) ∧ W'.rangeAt g2 (k * 10) (F k)) (by kernel_rfl) ?_
          change wpAnyH _ _ _ _ _ _ _ _ (World.drew _)
          obtain ⟨W0, hW0⟩ : ∃ X, X = World.drew wr := ⟨_, rfl⟩
          have hD0 : Below wr.heap.size wr W0 := by rw [hW0]; exact (Below.refl _ _).drew
          rw [← hW0]
          clear hW0
          have RR1 := row_range HF.out (R1.out.below (hB.trans (hD0.mono hB.size)) R1.out.lt) hlt
          have RR2 := row_range HF.out (R2.out.below (hB.trans (hD0.mono hB.size)) R2.out.lt) hlt
          have hS0 : (fun W' : World => W'.rangeAt g1 (k * 10) (F k) ∧ W'.rangeAt g2 (k * 10) (F k)) W0 := ⟨RR1, RR2⟩
          refine wpAnyH_takeD (some 17) (i := 0) (v := ?_) rfl rfl (by kernel_rfl) (by kernel_rfl) (by kernel_rfl) (fun _ _ _ h => h) (.inl ⟨by kernel_rfl, ?_⟩) hS0 ?_
          rotate_left
          · intro w' hw'; clear hw'; go_simp; try with_reducible rfl
          try simp only [Act.put, List.setIfInBounds_toArray, List.set_cons_zero, List.set_cons_succ]
          refine wpAnyH_takeD (some 18) (i := 1) (v := ?_) rfl rfl (by kernel_rfl) (by kernel_rfl) (by kernel_rfl) (fun _ _ _ h => h) (.inl ⟨by kernel_rfl, ?_⟩) hS0 ?_
          rotate_left
          · intro w' hw'; clear hw'; go_simp; try with_reducible rfl
          try simp only [Act.put, List.setIfInBounds_toArray, List.set_cons_zero, List.set_cons_succ]
          refine wpAnyH_takeD (some 19) (i := 2) (v := ?_) rfl rfl (by kernel_rfl) (by kernel_rfl) (by kernel_rfl) (fun _ _ _ h => h) (.inl ⟨by kernel_rfl, ?_⟩) hS0 ?_
          rotate_left
          · intro w' hw'; clear hw'; go_simp; try with_reducible rfl
          try simp only [Act.put, List.setIfInBounds_toArray, List.set_cons_zero, List.set_cons_succ]
          refine wpAnyH_takeD (some 20) (i := 3) (v := .agg (F k).toArray) rfl rfl (by kernel_rfl) (by kernel_rfl) (by kernel_rfl) (fun _ _ _ h => h) (.inl ⟨by kernel_rfl, ?_⟩) hS0 ?_
          · intro w' hw'; exact exec_load_mid 52 _ rfl g1 (k * 10) rfl (F k) _ hw'.1 Tryd.underlying52 rfl (HI2.out k)
          try simp only [Act.put, List.setIfInBounds_toArray, List.set_cons_zero, List.set_cons_succ]
          refine wpAnyH_takeD (some 21) (i := 4) (v := ?_) rfl rfl (by kernel_rfl) (by kernel_rfl) (by kernel_rfl) (fun _ _ _ h => h) (.inl ⟨by kernel_rfl, ?_⟩) hS0 ?_
          rotate_left
          · intro w' hw'; clear hw'; go_simp; try with_reducible rfl
          try simp only [Act.put, List.setIfInBounds_toArray, List.set_cons_zero, List.set_cons_succ]
          refine wpAnyH_takeD (some 22) (i := 5) (v := ?_) rfl rfl (by kernel_rfl) (by kernel_rfl) (by kernel_rfl) (fun _ _ _ h => h) (.inl ⟨by kernel_rfl, ?_⟩) hS0 ?_
          rotate_left
          · intro w' hw'; clear hw'; go_simp; try with_reducible rfl
          try simp only [Act.put, List.setIfInBounds_toArray, List.set_cons_zero, List.set_cons_succ]
          refine wpAnyH_takeD (some 23) (i := 6) (v := ?_) rfl rfl (by kernel_rfl) (by kernel_rfl) (by kernel_rfl) (fun _ _ _ h => h) (.inl ⟨by kernel_rfl, ?_⟩) hS0 ?_
          rotate_left
          · intro w' hw'; clear hw'; go_simp; try with_reducible rfl
          try simp only [Act.put, List.setIfInBounds_toArray, List.set_cons_zero, List.set_cons_succ]
          refine wpAnyH_takeD (some 24) (i := 7) (v := .agg (F k).toArray) rfl rfl (by kernel_rfl) (by kernel_rfl) (by kernel_rfl) (fun _ _ _ h => h) (.inl ⟨by kernel_rfl, ?_⟩) hS0 ?_
          · intro w' hw'; exact exec_load_mid 52 _ rfl g2 (k * 10) rfl (F k) _ hw'.2 Tryd.underlying52 rfl (HI2.out k)
          try simp only [Act.put, List.setIfInBounds_toArray, List.set_cons_zero, List.set_cons_succ]
          refine wpAnyH_all (rs := [8]) (by kernel_rfl) (by simp) ?_
          intro i hi; simp only [List.mem_cons, List.not_mem_nil, or_false] at hi
          subst hi
          refine wpOp_step rfl (fun K hK => ?_)
          go_simp
          with_reducible refine (HE.out k W0).mono ?_
          rintro e w2 ⟨rfl, hB2⟩
          have RR1 := row_range HF.out (R1.out.below ((hB.trans (hD0.mono hB.size)).trans (hB2.mono (hB.trans (hD0.mono hB.size)).size)) R1.out.lt) hlt
          have RR2 := row_range HF.out (R2.out.below ((hB.trans (hD0.mono hB.size)).trans (hB2.mono (hB.trans (hD0.mono hB.size)).size)) R2.out.lt) hlt
          have hS2 : (fun W' : World => W'.rangeAt g1 (k * 10) (F k) ∧ W'.rangeAt g2 (k * 10) (F k)) w2 := ⟨RR1, RR2⟩
          refine hK _ _ ⟨hS2, ?_⟩
          try simp only [Act.put, List.setIfInBounds_toArray, List.set_cons_zero, List.set_cons_succ]
          clear hK K
          refine wpAnyH_takeD (some 26) (i := 9) (v := ?_) rfl rfl (by kernel_rfl) (by kernel_rfl) (by kernel_rfl) (fun _ _ _ h => h) (.inl ⟨by kernel_rfl, ?_⟩) hS2 ?_
          rotate_left
          · intro w' hw'; clear hw'; go_simp; try with_reducible rfl
          try simp only [Act.put, List.setIfInBounds_toArray, List.set_cons_zero, List.set_cons_succ]
          refine wpAnyH_done (by kernel_rfl) ?_ _
          have BB := hid ((hB.trans (hD0.mono hB.size)).trans (hB2.mono (hB.trans (hD0.mono hB.size)).size))
          clear hB hB2 hD0 RR1 RR2
          go_wp2_with fail
          go_roundw
          case rel => exact ⟨k + 1, by omega, by go_num, BB.out⟩
          case measure => simp [intOf]; omega
        · obtain rfl : k = n := by omega
          go_wp2_with fail
          go_ret
          exact ⟨rfl, hB⟩
theorem eqNotesL (z : Int) (zs : List Int) (S : DS) (js : List (Int × Int)) (b1 b2 : Nat) (v1 v2 : Value) (n : Nat) (w : World) (h1 : OwnX 87 11 w b1 v1 n (ntL z zs S js n)) (h2 : OwnX 87 11 w b2 v2 n (ntL z zs S js n)) :
    Calls Tryd.prog 33 #[v1, v2] w (GivesB w (.bool true)) :=
  eqNote_own (ntP z zs S js) (ntP_len z zs S js) (fun k W => eqNote_same _ _ _ _ _ _ _ _ _ _ _ W) b1 b2 v1 v2 n w h1 h2
end Go.Proofs.YthifegbmpmialaaDoor

namespace Go.Proofs.YthifegbmpmialaaDoor
open Go.RowKit
set_option linter.unusedVariables false
set_option linter.unusedSimpArgs false
/-- a list of structs of its own, and a code: all if the code is 0, none if not -/
def ListG (T : TypeId) (sz : Nat) (n : Nat) (xs : List Value) (c : Int) (w : World) (e : Ending) (w' : World) : Prop :=
  ∃ v, e = .returned (.tuple #[v, .int .i64 c]) ∧ OwnX T sz w' w.heap.size v (if c = 0 then n else 0) (if c = 0 then xs else []) ∧ Below w.heap.size w w'
/-- the same, with the number and the cells told -/
def ListG0 (T : TypeId) (sz : Nat) (n : Nat) (xs : List Value) (c : Int) (w : World) (e : Ending) (w' : World) : Prop :=
  ∃ v, e = .returned (.tuple #[v, .int .i64 c]) ∧ OwnX T sz w' w.heap.size v n xs ∧ Below w.heap.size w w'
theorem ListG.mk {T : TypeId} {sz n : Nat} {xs : List Value} {c : Int} {w w' : World} {e : Ending} {v : Value} (he : e = .returned (.tuple #[v, .int .i64 c])) (hO : OwnX T sz w' w.heap.size v (if c = 0 then n else 0) (if c = 0 then xs else [])) (hB : Below w.heap.size w w') : ListG T sz n xs c w e w' := ⟨v, he, hO, hB⟩
set_option maxRecDepth 100000 in
set_option maxHeartbeats 1000000 in
theorem specJournalOf_any (B n cap : Nat) (zs ds : List Int) (v pr : Int) (st : Bool) (tk : Int) (b N acap : Nat) (js : List (Int × Int)) (w : World) (hS : Stk w B zs) (hn : n = zs.length) (hd8 : ds.length = 8) (ho : Oct (dg ds 0) (dg ds 1) (dg ds 2) (dg ds 3) (dg ds 4) (dg ds 5) (dg ds 6) (dg ds 7)) (hvv : okDev zs ds pr st tk = true → ds = dgL zs v ∧ okS (szL zs) (v, pr, st, tk)) (hA : Ast w b js) (hN : N = js.length) :
    Calls Tryd.prog 31 #[.agg (dvC (.slice (some ⟨B, 0, none⟩) n cap) ds pr st tk).toArray, (.slice (some ⟨b, 0, none⟩) N acap)] w (ListG 87 11 N (ntL (szL zs) zs (v, pr, st, tk) js N) (rcode zs ds v pr st tk js N) w) := by
  have hID : (Tryd.prog.info? 33).map (·.size) = some 12 := Tryd.infoDev
  obtain ⟨V, hV⟩ : ∃ y, y = w.alloc (.cells (dvC (.slice (some ⟨B, 0, none⟩) n cap) ds pr st tk).toArray 33) := ⟨_, rfl⟩
  have bV : Below w.heap.size w V := by rw [hV]; exact (Below.refl _ _).alloc (Nat.le_refl _) _
  have rP : Row V w.heap.size 33 (dvC (.slice (some ⟨B, 0, none⟩) n cap) ds pr st tk) := by rw [hV]; exact Row.new w _ _
  have HR := hid (l07Run_any w.heap.size B n cap zs ds v pr st tk b N acap js V rP (hS.below bV hS.1) hn hd8 ho hvv (hA.below bV hA.1) hN)
  have hN60 : rcode zs ds v pr st tk js N = 0 → N ≤ 60 := fun hc => by
    rw [rcode] at hc
    split at hc
    · exact absurd hc (by decide)
    · split at hc
      · exact absurd hc (by decide)
      · split at hc
        · exact absurd hc (by decide)
        · omega
  obtain ⟨c, hc⟩ : ∃ y, rcode zs ds v pr st tk js N = y := ⟨_, rfl⟩
  rw [hc] at HR hN60 ⊢
  have HV := hid hV; have BV := hid bV; have H60 := hid hN60
  clear hV bV rP hS hn hd8 ho hvv hA hN hc hN60
  go_enter Tryd.func31, Tryd.ntmps31
  go_wp2_with fail
  rw [← HV.out]
  refine HR.out.mono ?_
  rintro e w1 ⟨⟨hc, g, cp, rest, nv, tv', bn, bt, rfl, hg, hG, hbn, oN, hbt, oT⟩ | ⟨hc, x1, x2, rfl⟩, hB1⟩
  · subst hc
    have h60 := H60.out rfl
    obtain ⟨⟨tv, tpr, tst, ttk⟩, hST⟩ : ∃ T : DS, stF (szL zs) (v, pr, st, tk) js N = T := ⟨_, rfl⟩
    rw [hST]
    have e9 : (dvS (.slice (some ⟨g, 0, none⟩) zs.length cp) zs (tv, tpr, tst, ttk)) = (dvC (.slice (some ⟨g, 0, none⟩) zs.length cp) (dgL zs tv) tpr tst ttk) := rfl
    rw [e9]
    clear e9 hST
    obtain ⟨V2, hV2⟩ : ∃ y, y = w1.alloc (.cells #[.slice none 0 0, .int .u8 0, .int .u8 0, .int .u8 0, .int .u8 0, .int .u8 0, .int .u8 0, .int .u8 0, .int .u8 0, .int .i64 0, .bool false, .int .i64 0] 33) := ⟨_, rfl⟩
    have r7 : Row V2 w1.heap.size 33 dvZ := by rw [hV2]; exact Row.new w1 _ dvZ
    have a2 : Below w1.heap.size w1 V2 := by rw [hV2]; exact (Below.refl _ _).alloc (Nat.le_refl _) _
    have T7 := r7.thereO 0 12 (by rw [dvZ_len]; omega)
    rw [hV2] at T7
    obtain ⟨W3, hW3⟩ : ∃ y, y = V2.setCells w1.heap.size 0 (dvC (.slice (some ⟨g, 0, none⟩) zs.length cp) (dgL zs tv) tpr tst ttk) := ⟨_, rfl⟩
    have r7b : Row W3 w1.heap.size 33 (dvC (.slice (some ⟨g, 0, none⟩) zs.length cp) (dgL zs tv) tpr tst ttk) := by rw [hW3]; exact r7.setAll rfl
    have a3 : Below w1.heap.size w1 W3 := by rw [hW3]; exact below_setCellsD _ 0 _ a2 (Nat.le_refl _)
    have hEQ : World.setCells (w1.alloc (.cells #[.slice none 0 0, .int .u8 0, .int .u8 0, .int .u8 0, .int .u8 0, .int .u8 0, .int .u8 0, .int .u8 0, .int .u8 0, .int .i64 0, .bool false, .int .i64 0] 33)) w1.heap.size 0 (dvC (.slice (some ⟨g, 0, none⟩) zs.length cp) (dgL zs tv) tpr tst ttk).toArray.toList = W3 := by rw [← hV2]; exact hW3.symm
    have HEQ := hid hEQ
    clear hEQ hW3 hV2 r7 a2
    have FIN : Hid (ListG 87 11 N (ntL (szL zs) zs (v, pr, st, tk) js N) 0 w (.returned (.tuple #[nv, .int .i64 0])) W3) := hid (by
      refine ListG.mk rfl (by rw [if_pos rfl]; exact (OwnX.of_owns (owns_belowP oN a3) (by omega)).lowb (by have := BV.out.size; omega)) ?_
      exact (BV.out.trans (hB1.mono BV.out.size)).trans (a3.mono (BV.out.trans (hB1.mono BV.out.size)).size))
    clear a3 hG oN oT hB1 hg hbn hbt r7b h60
    go_upto_region 2 with ((with_reducible refine wpList_store_mid rfl 33 _ _ rfl w1.heap.size 0 (dvC (.slice (some ⟨g, 0, none⟩) zs.length cp) (dgL zs tv) tpr tst ttk).toArray ?_ ?_ ?_ ?_ (all_oneCell_toArray (dvC_one _ _ _ _ _ _ _)) ?_); rfl; rfl; exact T7; exact hID)
    rw [HEQ.out]
    try simp only [Act.put]
    clear HEQ T7
    go_wp2_with fail
    refine bodyPost_ret (v := .tuple #[nv, .int .i64 0]) (by simp [results, Tryd.results31, go_sem]) rfl ?_
    exact FIN.out
  · have HCC := hid hc
    obtain ⟨V2, hV2⟩ : ∃ y, y = w1.alloc (.cells #[.slice none 0 0, .int .u8 0, .int .u8 0, .int .u8 0, .int .u8 0, .int .u8 0, .int .u8 0, .int .u8 0, .int .u8 0, .int .i64 0, .bool false, .int .i64 0] 33) := ⟨_, rfl⟩
    have r7 : Row V2 w1.heap.size 33 dvZ := by rw [hV2]; exact Row.new w1 _ dvZ
    have a2 : Below w1.heap.size w1 V2 := by rw [hV2]; exact (Below.refl _ _).alloc (Nat.le_refl _) _
    have T7 := r7.thereO 0 12 (by rw [dvZ_len]; omega)
    rw [hV2] at T7
    obtain ⟨W3, hW3⟩ : ∃ y, y = V2.setCells w1.heap.size 0 dvZ := ⟨_, rfl⟩
    have r7b : Row W3 w1.heap.size 33 dvZ := by rw [hW3]; exact r7.setAll rfl
    have a3 : Below w1.heap.size w1 W3 := by rw [hW3]; exact below_setCellsD _ 0 _ a2 (Nat.le_refl _)
    have hEQ : World.setCells (w1.alloc (.cells #[.slice none 0 0, .int .u8 0, .int .u8 0, .int .u8 0, .int .u8 0, .int .u8 0, .int .u8 0, .int .u8 0, .int .u8 0, .int .i64 0, .bool false, .int .i64 0] 33)) w1.heap.size 0 dvZ.toArray.toList = W3 := by rw [← hV2]; exact hW3.symm
    have HEQ := hid hEQ
    clear hEQ hW3 hV2 r7 a2
    have FIN : Hid (ListG 87 11 N (ntL (szL zs) zs (v, pr, st, tk) js N) c w (.returned (.tuple #[.slice (some x1) 0 0, .int .i64 c])) W3) := hid (by
      refine ListG.mk rfl (by rw [if_neg HCC.out, if_neg HCC.out]; exact OwnX.nil _ _ _ _ _ _) ?_
      exact (BV.out.trans (hB1.mono BV.out.size)).trans (a3.mono (BV.out.trans (hB1.mono BV.out.size)).size))
    clear a3 hB1 r7b hc
    go_upto_region 2 with ((with_reducible refine wpList_store_mid rfl 33 _ _ rfl w1.heap.size 0 dvZ.toArray ?_ ?_ ?_ ?_ dvZ_oneT ?_); rfl; rfl; exact T7; exact hID)
    rw [HEQ.out]
    try simp only [Act.put]
    clear HEQ T7
    go_wp2_with fail
    refine bodyPost_ret (v := .tuple #[.slice (some x1) 0 0, .int .i64 c]) (by simp [results, Tryd.results31, go_sem]) rfl ?_
    exact FIN.out
set_option maxRecDepth 100000 in
set_option maxHeartbeats 1000000 in
theorem specTicketsOf_any (B n cap : Nat) (zs ds : List Int) (v pr : Int) (st : Bool) (tk : Int) (b N acap : Nat) (js : List (Int × Int)) (w : World) (hS : Stk w B zs) (hn : n = zs.length) (hd8 : ds.length = 8) (ho : Oct (dg ds 0) (dg ds 1) (dg ds 2) (dg ds 3) (dg ds 4) (dg ds 5) (dg ds 6) (dg ds 7)) (hvv : okDev zs ds pr st tk = true → ds = dgL zs v ∧ okS (szL zs) (v, pr, st, tk)) (hA : Ast w b js) (hN : N = js.length) :
    Calls Tryd.prog 26 #[.agg (dvC (.slice (some ⟨B, 0, none⟩) n cap) ds pr st tk).toArray, (.slice (some ⟨b, 0, none⟩) N acap)] w (ListG 52 10 (tkN js N) (tkL zs (v, pr, st, tk) js N) (rcode zs ds v pr st tk js N) w) := by
  have hID : (Tryd.prog.info? 33).map (·.size) = some 12 := Tryd.infoDev
  obtain ⟨V, hV⟩ : ∃ y, y = w.alloc (.cells (dvC (.slice (some ⟨B, 0, none⟩) n cap) ds pr st tk).toArray 33) := ⟨_, rfl⟩
  have bV : Below w.heap.size w V := by rw [hV]; exact (Below.refl _ _).alloc (Nat.le_refl _) _
  have rP : Row V w.heap.size 33 (dvC (.slice (some ⟨B, 0, none⟩) n cap) ds pr st tk) := by rw [hV]; exact Row.new w _ _
  have HR := hid (l07Run_any w.heap.size B n cap zs ds v pr st tk b N acap js V rP (hS.below bV hS.1) hn hd8 ho hvv (hA.below bV hA.1) hN)
  have hN60 : rcode zs ds v pr st tk js N = 0 → N ≤ 60 := fun hc => by
    rw [rcode] at hc
    split at hc
    · exact absurd hc (by decide)
    · split at hc
      · exact absurd hc (by decide)
      · split at hc
        · exact absurd hc (by decide)
        · omega
  obtain ⟨c, hc⟩ : ∃ y, rcode zs ds v pr st tk js N = y := ⟨_, rfl⟩
  rw [hc] at HR hN60 ⊢
  have HV := hid hV; have BV := hid bV; have H60 := hid hN60
  clear hV bV rP hS hn hd8 ho hvv hA hN hc hN60
  go_enter Tryd.func26, Tryd.ntmps26
  go_wp2_with fail
  rw [← HV.out]
  refine HR.out.mono ?_
  rintro e w1 ⟨⟨hc, g, cp, rest, nv, tv', bn, bt, rfl, hg, hG, hbn, oN, hbt, oT⟩ | ⟨hc, x1, x2, rfl⟩, hB1⟩
  · subst hc
    have h60 := H60.out rfl
    obtain ⟨⟨tv, tpr, tst, ttk⟩, hST⟩ : ∃ T : DS, stF (szL zs) (v, pr, st, tk) js N = T := ⟨_, rfl⟩
    rw [hST]
    have e9 : (dvS (.slice (some ⟨g, 0, none⟩) zs.length cp) zs (tv, tpr, tst, ttk)) = (dvC (.slice (some ⟨g, 0, none⟩) zs.length cp) (dgL zs tv) tpr tst ttk) := rfl
    rw [e9]
    clear e9 hST
    obtain ⟨V2, hV2⟩ : ∃ y, y = w1.alloc (.cells #[.slice none 0 0, .int .u8 0, .int .u8 0, .int .u8 0, .int .u8 0, .int .u8 0, .int .u8 0, .int .u8 0, .int .u8 0, .int .i64 0, .bool false, .int .i64 0] 33) := ⟨_, rfl⟩
    have r7 : Row V2 w1.heap.size 33 dvZ := by rw [hV2]; exact Row.new w1 _ dvZ
    have a2 : Below w1.heap.size w1 V2 := by rw [hV2]; exact (Below.refl _ _).alloc (Nat.le_refl _) _
    have T7 := r7.thereO 0 12 (by rw [dvZ_len]; omega)
    rw [hV2] at T7
    obtain ⟨W3, hW3⟩ : ∃ y, y = V2.setCells w1.heap.size 0 (dvC (.slice (some ⟨g, 0, none⟩) zs.length cp) (dgL zs tv) tpr tst ttk) := ⟨_, rfl⟩
    have r7b : Row W3 w1.heap.size 33 (dvC (.slice (some ⟨g, 0, none⟩) zs.length cp) (dgL zs tv) tpr tst ttk) := by rw [hW3]; exact r7.setAll rfl
    have a3 : Below w1.heap.size w1 W3 := by rw [hW3]; exact below_setCellsD _ 0 _ a2 (Nat.le_refl _)
    have hEQ : World.setCells (w1.alloc (.cells #[.slice none 0 0, .int .u8 0, .int .u8 0, .int .u8 0, .int .u8 0, .int .u8 0, .int .u8 0, .int .u8 0, .int .u8 0, .int .i64 0, .bool false, .int .i64 0] 33)) w1.heap.size 0 (dvC (.slice (some ⟨g, 0, none⟩) zs.length cp) (dgL zs tv) tpr tst ttk).toArray.toList = W3 := by rw [← hV2]; exact hW3.symm
    have HEQ := hid hEQ
    clear hEQ hW3 hV2 r7 a2
    have FIN : Hid (ListG 52 10 (tkN js N) (tkL zs (v, pr, st, tk) js N) 0 w (.returned (.tuple #[tv', .int .i64 0])) W3) := hid (by
      refine ListG.mk rfl (by rw [if_pos rfl]; exact (OwnX.of_owns (owns_belowP oT a3) (by have := tkN_le js N; omega)).lowb (by have := BV.out.size; omega)) ?_
      exact (BV.out.trans (hB1.mono BV.out.size)).trans (a3.mono (BV.out.trans (hB1.mono BV.out.size)).size))
    clear a3 hG oN oT hB1 hg hbn hbt r7b h60
    go_upto_region 2 with ((with_reducible refine wpList_store_mid rfl 33 _ _ rfl w1.heap.size 0 (dvC (.slice (some ⟨g, 0, none⟩) zs.length cp) (dgL zs tv) tpr tst ttk).toArray ?_ ?_ ?_ ?_ (all_oneCell_toArray (dvC_one _ _ _ _ _ _ _)) ?_); rfl; rfl; exact T7; exact hID)
    rw [HEQ.out]
    try simp only [Act.put]
    clear HEQ T7
    go_wp2_with fail
    refine bodyPost_ret (v := .tuple #[tv', .int .i64 0]) (by simp [results, Tryd.results26, go_sem]) rfl ?_
    exact FIN.out
  · have HCC := hid hc
    obtain ⟨V2, hV2⟩ : ∃ y, y = w1.alloc (.cells #[.slice none 0 0, .int .u8 0, .int .u8 0, .int .u8 0, .int .u8 0, .int .u8 0, .int .u8 0, .int .u8 0, .int .u8 0, .int .i64 0, .bool false, .int .i64 0] 33) := ⟨_, rfl⟩
    have r7 : Row V2 w1.heap.size 33 dvZ := by rw [hV2]; exact Row.new w1 _ dvZ
    have a2 : Below w1.heap.size w1 V2 := by rw [hV2]; exact (Below.refl _ _).alloc (Nat.le_refl _) _
    have T7 := r7.thereO 0 12 (by rw [dvZ_len]; omega)
    rw [hV2] at T7
    obtain ⟨W3, hW3⟩ : ∃ y, y = V2.setCells w1.heap.size 0 dvZ := ⟨_, rfl⟩
    have r7b : Row W3 w1.heap.size 33 dvZ := by rw [hW3]; exact r7.setAll rfl
    have a3 : Below w1.heap.size w1 W3 := by rw [hW3]; exact below_setCellsD _ 0 _ a2 (Nat.le_refl _)
    have hEQ : World.setCells (w1.alloc (.cells #[.slice none 0 0, .int .u8 0, .int .u8 0, .int .u8 0, .int .u8 0, .int .u8 0, .int .u8 0, .int .u8 0, .int .u8 0, .int .i64 0, .bool false, .int .i64 0] 33)) w1.heap.size 0 dvZ.toArray.toList = W3 := by rw [← hV2]; exact hW3.symm
    have HEQ := hid hEQ
    clear hEQ hW3 hV2 r7 a2
    have FIN : Hid (ListG 52 10 (tkN js N) (tkL zs (v, pr, st, tk) js N) c w (.returned (.tuple #[.slice (some x2) 0 0, .int .i64 c])) W3) := hid (by
      refine ListG.mk rfl (by rw [if_neg HCC.out, if_neg HCC.out]; exact OwnX.nil _ _ _ _ _ _) ?_
      exact (BV.out.trans (hB1.mono BV.out.size)).trans (a3.mono (BV.out.trans (hB1.mono BV.out.size)).size))
    clear a3 hB1 r7b hc
    go_upto_region 2 with ((with_reducible refine wpList_store_mid rfl 33 _ _ rfl w1.heap.size 0 dvZ.toArray ?_ ?_ ?_ ?_ dvZ_oneT ?_); rfl; rfl; exact T7; exact hID)
    rw [HEQ.out]
    try simp only [Act.put]
    clear HEQ T7
    go_wp2_with fail
    refine bodyPost_ret (v := .tuple #[.slice (some x2) 0 0, .int .i64 c]) (by simp [results, Tryd.results26, go_sem]) rfl ?_
    exact FIN.out
theorem implJournalOf_any (B n cap : Nat) (zs ds : List Int) (v pr : Int) (st : Bool) (tk : Int) (b N acap : Nat) (js : List (Int × Int)) (w : World) (hS : Stk w B zs) (hn : n = zs.length) (hd8 : ds.length = 8) (ho : Oct (dg ds 0) (dg ds 1) (dg ds 2) (dg ds 3) (dg ds 4) (dg ds 5) (dg ds 6) (dg ds 7)) (hvv : okDev zs ds pr st tk = true → ds = dgL zs v ∧ okS (szL zs) (v, pr, st, tk)) (hA : Ast w b js) (hN : N = js.length) (a0 a1 a2 a3 : Addr) (hSN : SN w a0 a1 a2 a3) :
    Calls Tryd.prog 32 #[.agg (dvC (.slice (some ⟨B, 0, none⟩) n cap) ds pr st tk).toArray, (.slice (some ⟨b, 0, none⟩) N acap)] w (ListG 87 11 N (ntL (szL zs) zs (v, pr, st, tk) js N) (rcode zs ds v pr st tk js N) w) := by
  have hl : rcode zs ds v pr st tk js N = 0 → N ≤ 60 := fun hc => by
    rw [rcode] at hc
    split at hc
    · exact absurd hc (by decide)
    · split at hc
      · exact absurd hc (by decide)
      · split at hc
        · exact absurd hc (by decide)
        · omega
  refine (implJournal_any B n cap zs ds v pr st tk b N acap js w hS hn hS.2.2.1 hd8 ho hvv hA hN a0 a1 a2 a3 hSN).mono ?_
  rintro e w' ⟨dv, nv, l, he, _, hX, hB⟩
  rcases hX with ⟨hc, g, cp, rest, base, _, _, _, hg, hgb, _, oN⟩ | ⟨hc, _, rfl, _⟩
  · refine ListG.mk he ?_ hB
    rw [if_pos hc, if_pos hc]
    exact (OwnX.of_owns oN (by have := hl hc; omega)).lowb (by omega)
  · refine ListG.mk he ?_ hB
    rw [if_neg hc, if_neg hc]
    exact OwnX.nil _ _ _ _ _ _
end Go.Proofs.YthifegbmpmialaaDoor

namespace Go.Proofs.YthifegbmpmialaaDoor
open Go.RowKit
theorem Tryd.infoU8q : (Tryd.prog.info? 5).map (·.size) = some 1 := by kernel_rfl
/-- two lists have the same first eight numbers -/
def sameQ (ds es : List Int) : Bool := (List.range 8).all fun i => ds[i]?.getD 0 == es[i]?.getD 0
theorem sameQ_self (ds : List Int) : sameQ ds ds = true := by simp [sameQ]
theorem forIn_allQ {P : Program} (w : World) (f : Nat → Sem Bool) (b : Nat → Bool) : ∀ (l : List Nat), (∀ i ∈ l, (f i).run P w = .ok (b i) w) →
    ((do
      let r ← forIn l ((none, ()) : Option Bool × Unit) fun i _ => do
        if !(← f i) then pure (ForInStep.done (some false, ())) else pure (ForInStep.yield (none, ()))
      match r.fst with
      | some a => pure a
      | none => pure true : Sem Bool)).run P w = .ok (l.all b) w
  | [], _ => by simp
  | i :: l, h => by
    have h0 := h i (by simp)
    have ih := forIn_allQ w f b l (fun j hj => h j (by simp [hj]))
    cases hb : b i with
    | false => simp [h0, hb]
    | true =>
      simp only [List.all_cons, hb, Bool.true_and]
      rw [← ih]
      simp [h0, hb]
theorem equalIn_arrayQ {P : Program} (w : World) (d : Nat) {t e : TypeId} {n sz : Nat} (ht : P.underlying t = some (.array n e)) (hs : ∀ w, (sizeOf e).run P w = .ok sz w) (xs ys : Array Value) (b : Nat → Bool) (x y : Nat → Value)
    (hx : ∀ i, i < n → (part e xs (i * sz)).run P w = .ok (x i) w) (hy : ∀ i, i < n → (part e ys (i * sz)).run P w = .ok (y i) w)
    (h : ∀ i, i < n → (Op.equalIn d e (x i) (y i)).run P w = .ok (b i) w) : (Op.equalIn (d + 1) t (.agg xs) (.agg ys)).run P w = .ok ((List.range n).all b) w := by
  have := forIn_allQ (P := P) w (fun i => do Op.equalIn d e (← part e xs (i * sz)) (← part e ys (i * sz))) b (List.range n) (fun i hi => by
    have hi' := List.mem_range.1 hi
    simp [hx i hi', hy i hi', h i hi'])
  rw [← this]
  simp [Op.equalIn, run_underlying ht, hs, List.range_eq_range']
  congr 1
  funext a w'
  cases a.fst <;> rfl
theorem run_sizeOfQ {P : Program} {t : TypeId} {n : Nat} (h : (P.info? t).map (·.size) = some n) (w : World) : (sizeOf t).run P w = .ok n w := by
  cases hq : P.info? t with
  | none => simp [hq] at h
  | some i => simp [hq] at h; simp [sizeOf, typeInfo, hq, h]
theorem part_digQ (d0 d1 d2 d3 d4 d5 d6 d7 : Int) (i : Nat) (hi : i < 8) (w : World) : (part 5 #[.int .u8 d0, .int .u8 d1, .int .u8 d2, .int .u8 d3, .int .u8 d4, .int .u8 d5, .int .u8 d6, .int .u8 d7] (i * 1)).run Tryd.prog w = .ok (.int .u8 ([d0, d1, d2, d3, d4, d5, d6, d7][i]?.getD 0)) w := by
  have h0 : (part 5 #[.int .u8 d0, .int .u8 d1, .int .u8 d2, .int .u8 d3, .int .u8 d4, .int .u8 d5, .int .u8 d6, .int .u8 d7] (0 * 1)).run Tryd.prog w = .ok (.int .u8 d0) w := by kernel_rfl
  have h1 : (part 5 #[.int .u8 d0, .int .u8 d1, .int .u8 d2, .int .u8 d3, .int .u8 d4, .int .u8 d5, .int .u8 d6, .int .u8 d7] (1 * 1)).run Tryd.prog w = .ok (.int .u8 d1) w := by kernel_rfl
  have h2 : (part 5 #[.int .u8 d0, .int .u8 d1, .int .u8 d2, .int .u8 d3, .int .u8 d4, .int .u8 d5, .int .u8 d6, .int .u8 d7] (2 * 1)).run Tryd.prog w = .ok (.int .u8 d2) w := by kernel_rfl
  have h3 : (part 5 #[.int .u8 d0, .int .u8 d1, .int .u8 d2, .int .u8 d3, .int .u8 d4, .int .u8 d5, .int .u8 d6, .int .u8 d7] (3 * 1)).run Tryd.prog w = .ok (.int .u8 d3) w := by kernel_rfl
  have h4 : (part 5 #[.int .u8 d0, .int .u8 d1, .int .u8 d2, .int .u8 d3, .int .u8 d4, .int .u8 d5, .int .u8 d6, .int .u8 d7] (4 * 1)).run Tryd.prog w = .ok (.int .u8 d4) w := by kernel_rfl
  have h5 : (part 5 #[.int .u8 d0, .int .u8 d1, .int .u8 d2, .int .u8 d3, .int .u8 d4, .int .u8 d5, .int .u8 d6, .int .u8 d7] (5 * 1)).run Tryd.prog w = .ok (.int .u8 d5) w := by kernel_rfl
  have h6 : (part 5 #[.int .u8 d0, .int .u8 d1, .int .u8 d2, .int .u8 d3, .int .u8 d4, .int .u8 d5, .int .u8 d6, .int .u8 d7] (6 * 1)).run Tryd.prog w = .ok (.int .u8 d6) w := by kernel_rfl
  have h7 : (part 5 #[.int .u8 d0, .int .u8 d1, .int .u8 d2, .int .u8 d3, .int .u8 d4, .int .u8 d5, .int .u8 d6, .int .u8 d7] (7 * 1)).run Tryd.prog w = .ok (.int .u8 d7) w := by kernel_rfl
  have : i = 0 ∨ i = 1 ∨ i = 2 ∨ i = 3 ∨ i = 4 ∨ i = 5 ∨ i = 6 ∨ i = 7 := by omega
  rcases this with rfl | rfl | rfl | rfl | rfl | rfl | rfl | rfl
  · exact h0
  · exact h1
  · exact h2
  · exact h3
  · exact h4
  · exact h5
  · exact h6
  · exact h7
theorem eqlIn_digQ (d : Nat) (d0 d1 d2 d3 d4 d5 d6 d7 e0 e1 e2 e3 e4 e5 e6 e7 : Int) (w : World) : (Op.equalIn (d + 2) 31 (.agg #[.int .u8 d0, .int .u8 d1, .int .u8 d2, .int .u8 d3, .int .u8 d4, .int .u8 d5, .int .u8 d6, .int .u8 d7]) (.agg #[.int .u8 e0, .int .u8 e1, .int .u8 e2, .int .u8 e3, .int .u8 e4, .int .u8 e5, .int .u8 e6, .int .u8 e7])).run Tryd.prog w = .ok (sameQ [d0, d1, d2, d3, d4, d5, d6, d7] [e0, e1, e2, e3, e4, e5, e6, e7]) w := by
  rw [show d + 2 = (d + 1) + 1 from rfl, equalIn_arrayQ (P := Tryd.prog) w (d + 1) Tryd.underlying31 (run_sizeOfQ Tryd.infoU8q) #[.int .u8 d0, .int .u8 d1, .int .u8 d2, .int .u8 d3, .int .u8 d4, .int .u8 d5, .int .u8 d6, .int .u8 d7] #[.int .u8 e0, .int .u8 e1, .int .u8 e2, .int .u8 e3, .int .u8 e4, .int .u8 e5, .int .u8 e6, .int .u8 e7] (fun i => [d0, d1, d2, d3, d4, d5, d6, d7][i]?.getD 0 == [e0, e1, e2, e3, e4, e5, e6, e7][i]?.getD 0) _ _ (fun i hi => part_digQ d0 d1 d2 d3 d4 d5 d6 d7 i hi w) (fun i hi => part_digQ e0 e1 e2 e3 e4 e5 e6 e7 i hi w) (fun i hi => by rw [run_equalIn_int _ d 5 .u8 .u8 _ _ Tryd.underlying5])]
  rfl
theorem ticket_under : Tryd.prog.underlying 52 = some (.struct (Tryd.prog.fieldsOf 52)) := by rw [Program.fieldsOf, Tryd.underlying52]
theorem part_tickQ (n : Int) (d0 d1 d2 d3 d4 d5 d6 d7 : Int) (c : Int) (w : World) : (part 31 #[.int .i64 n, .int .u8 d0, .int .u8 d1, .int .u8 d2, .int .u8 d3, .int .u8 d4, .int .u8 d5, .int .u8 d6, .int .u8 d7, .int .u16 c] 1).run Tryd.prog w = .ok (.agg #[.int .u8 d0, .int .u8 d1, .int .u8 d2, .int .u8 d3, .int .u8 d4, .int .u8 d5, .int .u8 d6, .int .u8 d7]) w := by kernel_rfl
theorem eqlIn_tick (n : Int) (d0 d1 d2 d3 d4 d5 d6 d7 : Int) (c c' : Int) (w : World) : (Op.equalIn 10000 52 (.agg #[.int .i64 n, .int .u8 d0, .int .u8 d1, .int .u8 d2, .int .u8 d3, .int .u8 d4, .int .u8 d5, .int .u8 d6, .int .u8 d7, .int .u16 c]) (.agg #[.int .i64 n, .int .u8 d0, .int .u8 d1, .int .u8 d2, .int .u8 d3, .int .u8 d4, .int .u8 d5, .int .u8 d6, .int .u8 d7, .int .u16 c'])).run Tryd.prog w = .ok (c == c') w := by
  have k : Tryd.prog.underlying 2 = some (.int .i64) := Tryd.underlying2
  have k2 : Tryd.prog.underlying 50 = some (.int .u16) := Tryd.underlying50
  have p1 : ∀ c, (part 2 #[.int .i64 n, .int .u8 d0, .int .u8 d1, .int .u8 d2, .int .u8 d3, .int .u8 d4, .int .u8 d5, .int .u8 d6, .int .u8 d7, .int .u16 c] 0).run Tryd.prog w = .ok (.int .i64 n) w := fun c => by kernel_rfl
  have p2 : ∀ c, (part 50 #[.int .i64 n, .int .u8 d0, .int .u8 d1, .int .u8 d2, .int .u8 d3, .int .u8 d4, .int .u8 d5, .int .u8 d6, .int .u8 d7, .int .u16 c] 9).run Tryd.prog w = .ok (.int .u16 c) w := fun c => by kernel_rfl
  have q := eqlIn_digQ 9997 d0 d1 d2 d3 d4 d5 d6 d7 d0 d1 d2 d3 d4 d5 d6 d7 w
  rw [sameQ_self] at q
  obtain ⟨fs, hf, hu⟩ : ∃ fs, Tryd.prog.fieldsOf 52 = fs ∧ Tryd.prog.underlying 52 = some (.struct fs) := ⟨_, rfl, ticket_under⟩
  have hfs := Option.some.inj (Tryd.underlying52.symm.trans hu)
  simp only [TypeDesc.struct.injEq] at hfs
  subst hfs
  rw [run_equalIn_struct w 9999 52 _ _ ticket_under (by kernel_rfl), hf]
  by_cases h2 : c = c'
  · subst h2
    simp [Op.eqFields, p1, p2, part_tickQ, q, run_equalIn_int _ _ _ _ _ _ _ k, run_equalIn_int _ _ _ _ _ _ _ k2]
  · simp [Op.eqFields, p1, p2, part_tickQ, q, run_equalIn_int _ _ _ _ _ _ _ k, run_equalIn_int _ _ _ _ _ _ _ k2, h2]
theorem eql_tick (n : Int) (d0 d1 d2 d3 d4 d5 d6 d7 : Int) (c c' : Int) (w : World) : (binOp .eql 52 (.agg #[.int .i64 n, .int .u8 d0, .int .u8 d1, .int .u8 d2, .int .u8 d3, .int .u8 d4, .int .u8 d5, .int .u8 d6, .int .u8 d7, .int .u16 c]) (.agg #[.int .i64 n, .int .u8 d0, .int .u8 d1, .int .u8 d2, .int .u8 d3, .int .u8 d4, .int .u8 d5, .int .u8 d6, .int .u8 d7, .int .u16 c'])).run Tryd.prog w = .ok (.bool (c == c')) w := by
  rw [run_eql_struct, eqlIn_tick]
  rfl
end Go.Proofs.YthifegbmpmialaaDoor

namespace Go.Proofs.YthifegbmpmialaaDoor
open Go.RowKit
theorem boxT_bel (w : World) (T : TypeId) (cs : Array Value) : Below w.heap.size w (w.alloc (.cells cs T)) := (Below.refl _ w).alloc (Nat.le_refl _) _
/-- what stays while a ticket is made: the digits, and a box for the ticket -/
def CoreT (w : World) (xs : List Value) (w' : World) : Prop :=
  Below w.heap.size w w' ∧ Row w' w.heap.size 31 xs ∧ ∃ a0 a1 a2 a3 a4 a5 a6 a7 a8 a9, Row w' (w.heap.size + 1) 52 [a0, a1, a2, a3, a4, a5, a6, a7, a8, a9]
theorem CoreT.row {w : World} {xs : List Value} {w' : World} (h : CoreT w xs w') : ∃ a0 a1 a2 a3 a4 a5 a6 a7 a8 a9, Row w' (w.heap.size + 1) 52 [a0, a1, a2, a3, a4, a5, a6, a7, a8, a9] := h.2.2
theorem CoreT.below {w : World} {xs : List Value} {w' w'' : World} (h : CoreT w xs w') (hB : Below w'.heap.size w' w'') : CoreT w xs w'' := by
  obtain ⟨h1, h2, a0, a1, a2, a3, a4, a5, a6, a7, a8, a9, h4⟩ := h
  exact ⟨h1.trans (hB.mono h1.size), h2.below hB h2.lt, a0, a1, a2, a3, a4, a5, a6, a7, a8, a9, h4.below hB h4.lt⟩
theorem CoreT.cells {w : World} {v0 v1 v2 v3 v4 v5 v6 v7 : Value} {w' : World} (h : CoreT w [v0, v1, v2, v3, v4, v5, v6, v7] w') :
    CoreT w [v0, v1, v2, v3, v4, v5, v6, v7] w' ∧ w'.cell? ⟨w.heap.size, 0, none⟩ = some v0 ∧ w'.cell? ⟨w.heap.size, 1, none⟩ = some v1 ∧ w'.cell? ⟨w.heap.size, 2, none⟩ = some v2 ∧ w'.cell? ⟨w.heap.size, 3, none⟩ = some v3 ∧ w'.cell? ⟨w.heap.size, 4, none⟩ = some v4 ∧ w'.cell? ⟨w.heap.size, 5, none⟩ = some v5 ∧ w'.cell? ⟨w.heap.size, 6, none⟩ = some v6 ∧ w'.cell? ⟨w.heap.size, 7, none⟩ = some v7 := by
  have h' := h
  obtain ⟨h1, h2, _⟩ := h'
  exact ⟨h, h2.cell 0, h2.cell 1, h2.cell 2, h2.cell 3, h2.cell 4, h2.cell 5, h2.cell 6, h2.cell 7⟩
theorem CoreT.store {w : World} {xs : List Value} {w' : World} (h : CoreT w xs w') (x0 x1 x2 x3 x4 x5 x6 x7 x8 x9 : Value) : CoreT w xs ((((((((((w'.setCell ⟨w.heap.size + 1, 0, none⟩ (x0)).setCell ⟨w.heap.size + 1, 1, none⟩ (x1)).setCell ⟨w.heap.size + 1, 2, none⟩ (x2)).setCell ⟨w.heap.size + 1, 3, none⟩ (x3)).setCell ⟨w.heap.size + 1, 4, none⟩ (x4)).setCell ⟨w.heap.size + 1, 5, none⟩ (x5)).setCell ⟨w.heap.size + 1, 6, none⟩ (x6)).setCell ⟨w.heap.size + 1, 7, none⟩ (x7)).setCell ⟨w.heap.size + 1, 8, none⟩ (x8)).setCell ⟨w.heap.size + 1, 9, none⟩ (x9)) := by
  obtain ⟨h1, h2, a0, a1, a2, a3, a4, a5, a6, a7, a8, a9, h4⟩ := h
  have le1 : w.heap.size ≤ w.heap.size + 1 := by omega
  have ne : w.heap.size + 1 ≠ w.heap.size := by omega
  exact ⟨((((((((((h1.setCell (p := ⟨w.heap.size + 1, 0, none⟩) le1 _).setCell (p := ⟨w.heap.size + 1, 1, none⟩) le1 _).setCell (p := ⟨w.heap.size + 1, 2, none⟩) le1 _).setCell (p := ⟨w.heap.size + 1, 3, none⟩) le1 _).setCell (p := ⟨w.heap.size + 1, 4, none⟩) le1 _).setCell (p := ⟨w.heap.size + 1, 5, none⟩) le1 _).setCell (p := ⟨w.heap.size + 1, 6, none⟩) le1 _).setCell (p := ⟨w.heap.size + 1, 7, none⟩) le1 _).setCell (p := ⟨w.heap.size + 1, 8, none⟩) le1 _).setCell (p := ⟨w.heap.size + 1, 9, none⟩) le1 _), ((((((((((h2.other ne _).other ne _).other ne _).other ne _).other ne _).other ne _).other ne _).other ne _).other ne _).other ne _), x0, x1, x2, x3, x4, x5, x6, x7, x8, x9, ((((((((((h4.set 0 _).set 1 _).set 2 _).set 3 _).set 4 _).set 5 _).set 6 _).set 7 _).set 8 _).set 9 _)⟩
set_option maxRecDepth 100000 in
set_option maxHeartbeats 4000000 in
theorem ticketOf_any (n : Int) (d0 d1 d2 d3 d4 d5 d6 d7 : Int) (w : World) (hn : -9223372036854775808 ≤ n ∧ n ≤ 9223372036854775807) (ho : Oct d0 d1 d2 d3 d4 d5 d6 d7) :
    Calls Tryd.prog 55 #[.int .i64 n, .agg #[.int .u8 d0, .int .u8 d1, .int .u8 d2, .int .u8 d3, .int .u8 d4, .int .u8 d5, .int .u8 d6, .int .u8 d7]] w fun e w' => e = .returned (.agg #[.int .i64 n, .int .u8 d0, .int .u8 d1, .int .u8 d2, .int .u8 d3, .int .u8 d4, .int .u8 d5, .int .u8 d6, .int .u8 d7, .int .u16 (chk n [d0, d1, d2, d3, d4, d5, d6, d7])]) ∧ Below w.heap.size w w' := by
  obtain ⟨V, hV⟩ : ∃ V, V = ((w.alloc (.cells #[.int .u8 d0, .int .u8 d1, .int .u8 d2, .int .u8 d3, .int .u8 d4, .int .u8 d5, .int .u8 d6, .int .u8 d7] 31)).alloc (.cells #[.int .i64 0, .int .u8 0, .int .u8 0, .int .u8 0, .int .u8 0, .int .u8 0, .int .u8 0, .int .u8 0, .int .u8 0, .int .u16 0] 52)) := ⟨_, rfl⟩
  have bV : Below w.heap.size w V := by rw [hV]; exact ((Below.refl _ w).alloc (Nat.le_refl _) _).alloc (by simp) _
  have rd : Row V w.heap.size 31 [.int .u8 d0, .int .u8 d1, .int .u8 d2, .int .u8 d3, .int .u8 d4, .int .u8 d5, .int .u8 d6, .int .u8 d7] := by rw [hV]; exact (Row.new w _ _).alloc _
  have rt : Row V (w.heap.size + 1) 52 [.int .i64 0, .int .u8 0, .int .u8 0, .int .u8 0, .int .u8 0, .int .u8 0, .int .u8 0, .int .u8 0, .int .u8 0, .int .u16 0] := by
    have h := Row.new (w.alloc (.cells #[.int .u8 d0, .int .u8 d1, .int .u8 d2, .int .u8 d3, .int .u8 d4, .int .u8 d5, .int .u8 d6, .int .u8 d7] 31)) 52 [.int .i64 0, .int .u8 0, .int .u8 0, .int .u8 0, .int .u8 0, .int .u8 0, .int .u8 0, .int .u8 0, .int .u8 0, .int .u16 0]
    simp only [World.size_alloc] at h
    rw [hV]; exact h
  have HS0 := hid (CoreT.cells (w' := V.drew) ⟨bV.drew, rd.below (Below.refl _ _).drew rd.lt, _, _, _, _, _, _, _, _, _, _, rt.below (Below.refl _ _).drew rt.lt⟩)
  have HC := hid (fun (w' : World) (h : (fun w' : World => CoreT w [.int .u8 d0, .int .u8 d1, .int .u8 d2, .int .u8 d3, .int .u8 d4, .int .u8 d5, .int .u8 d6, .int .u8 d7] w' ∧ w'.cell? ⟨w.heap.size, 0, none⟩ = some (.int .u8 d0) ∧ w'.cell? ⟨w.heap.size, 1, none⟩ = some (.int .u8 d1) ∧ w'.cell? ⟨w.heap.size, 2, none⟩ = some (.int .u8 d2) ∧ w'.cell? ⟨w.heap.size, 3, none⟩ = some (.int .u8 d3) ∧ w'.cell? ⟨w.heap.size, 4, none⟩ = some (.int .u8 d4) ∧ w'.cell? ⟨w.heap.size, 5, none⟩ = some (.int .u8 d5) ∧ w'.cell? ⟨w.heap.size, 6, none⟩ = some (.int .u8 d6) ∧ w'.cell? ⟨w.heap.size, 7, none⟩ = some (.int .u8 d7)) w') => (checkOf_any n d0 d1 d2 d3 d4 d5 d6 d7 w' hn ho).mono fun e w'' ⟨he, hB⟩ => And.intro he (h.1.below hB).cells)
  obtain ⟨c, hc⟩ : ∃ c, chk n [d0, d1, d2, d3, d4, d5, d6, d7] = c := ⟨_, rfl⟩
  rw [hc] at HC ⊢
  have HV := hid hV
  have HZ := hid (fun (v : World) (hv : (fun w' : World => CoreT w [.int .u8 d0, .int .u8 d1, .int .u8 d2, .int .u8 d3, .int .u8 d4, .int .u8 d5, .int .u8 d6, .int .u8 d7] w' ∧ w'.cell? ⟨w.heap.size, 0, none⟩ = some (.int .u8 d0) ∧ w'.cell? ⟨w.heap.size, 1, none⟩ = some (.int .u8 d1) ∧ w'.cell? ⟨w.heap.size, 2, none⟩ = some (.int .u8 d2) ∧ w'.cell? ⟨w.heap.size, 3, none⟩ = some (.int .u8 d3) ∧ w'.cell? ⟨w.heap.size, 4, none⟩ = some (.int .u8 d4) ∧ w'.cell? ⟨w.heap.size, 5, none⟩ = some (.int .u8 d5) ∧ w'.cell? ⟨w.heap.size, 6, none⟩ = some (.int .u8 d6) ∧ w'.cell? ⟨w.heap.size, 7, none⟩ = some (.int .u8 d7)) v) => (hv.1.store (.int .i64 n) (.int .u8 d0) (.int .u8 d1) (.int .u8 d2) (.int .u8 d3) (.int .u8 d4) (.int .u8 d5) (.int .u8 d6) (.int .u8 d7) (.int .u16 c)).cells)
  clear hc hn ho hV bV rd rt
  go_enter Tryd.func55, Tryd.ntmps55
  go_wp2_with fail
  rw [← HV.out]
  go_region_held3 (fun w' : World => CoreT w [.int .u8 d0, .int .u8 d1, .int .u8 d2, .int .u8 d3, .int .u8 d4, .int .u8 d5, .int .u8 d6, .int .u8 d7] w' ∧ w'.cell? ⟨w.heap.size, 0, none⟩ = some (.int .u8 d0) ∧ w'.cell? ⟨w.heap.size, 1, none⟩ = some (.int .u8 d1) ∧ w'.cell? ⟨w.heap.size, 2, none⟩ = some (.int .u8 d2) ∧ w'.cell? ⟨w.heap.size, 3, none⟩ = some (.int .u8 d3) ∧ w'.cell? ⟨w.heap.size, 4, none⟩ = some (.int .u8 d4) ∧ w'.cell? ⟨w.heap.size, 5, none⟩ = some (.int .u8 d5) ∧ w'.cell? ⟨w.heap.size, 6, none⟩ = some (.int .u8 d6) ∧ w'.cell? ⟨w.heap.size, 7, none⟩ = some (.int .u8 d7)) (first | with_reducible assumption | with_reducible exact HS0.out | with_reducible exact HZ.out _ hv)
    ((go_at_call 70; with_reducible refine (HC.out _ (by assumption)).mono ?_; rintro e v ⟨rfl, hv⟩; obtain ⟨_, _, _, _, _, _, _, _, _, _, rr0⟩ := hv.1.row; have k0 := rr0.cell 0; have k1 := rr0.cell 1; have k2 := rr0.cell 2; have k3 := rr0.cell 3; have k4 := rr0.cell 4; have k5 := rr0.cell 5; have k6 := rr0.cell 6; have k7 := rr0.cell 7; have k8 := rr0.cell 8; have k9 := rr0.cell 9; have f0 := rr0.frozen 0; have f1 := rr0.frozen 1; have f2 := rr0.frozen 2; have f3 := rr0.frozen 3; have f4 := rr0.frozen 4; have f5 := rr0.frozen 5; have f6 := rr0.frozen 6; have f7 := rr0.frozen 7; have f8 := rr0.frozen 8; have f9 := rr0.frozen 9; simp only [List.getElem?_cons_zero, List.getElem?_cons_succ] at k0 k1 k2 k3 k4 k5 k6 k7 k8 k9))
  go_wp2_with fail
  have hy := (hv.1.store (.int .i64 n) (.int .u8 d0) (.int .u8 d1) (.int .u8 d2) (.int .u8 d3) (.int .u8 d4) (.int .u8 d5) (.int .u8 d6) (.int .u8 d7) (.int .u16 c)).1
  obtain ⟨Y, hY⟩ : ∃ Y, Y = ((((((((((v.setCell ⟨w.heap.size + 1, 0, none⟩ (.int .i64 n)).setCell ⟨w.heap.size + 1, 1, none⟩ (.int .u8 d0)).setCell ⟨w.heap.size + 1, 2, none⟩ (.int .u8 d1)).setCell ⟨w.heap.size + 1, 3, none⟩ (.int .u8 d2)).setCell ⟨w.heap.size + 1, 4, none⟩ (.int .u8 d3)).setCell ⟨w.heap.size + 1, 5, none⟩ (.int .u8 d4)).setCell ⟨w.heap.size + 1, 6, none⟩ (.int .u8 d5)).setCell ⟨w.heap.size + 1, 7, none⟩ (.int .u8 d6)).setCell ⟨w.heap.size + 1, 8, none⟩ (.int .u8 d7)).setCell ⟨w.heap.size + 1, 9, none⟩ (.int .u16 c)) := ⟨_, rfl⟩
  rw [← hY] at hy ⊢
  have rY : Row Y (w.heap.size + 1) 52 [.int .i64 n, .int .u8 d0, .int .u8 d1, .int .u8 d2, .int .u8 d3, .int .u8 d4, .int .u8 d5, .int .u8 d6, .int .u8 d7, .int .u16 c] := by rw [hY]; exact ((((((((((rr0.set 0 _).set 1 _).set 2 _).set 3 _).set 4 _).set 5 _).set 6 _).set 7 _).set 8 _).set 9 _)
  clear hY k0 k1 k2 k3 k4 k5 k6 k7 k8 k9 f0 f1 f2 f3 f4 f5 f6 f7 f8 f9
  have g0 := rY.cell 0; have g1 := rY.cell 1; have g2 := rY.cell 2; have g3 := rY.cell 3; have g4 := rY.cell 4; have g5 := rY.cell 5; have g6 := rY.cell 6; have g7 := rY.cell 7; have g8 := rY.cell 8; have g9 := rY.cell 9
  simp only [List.getElem?_cons_zero, List.getElem?_cons_succ] at g0 g1 g2 g3 g4 g5 g6 g7 g8 g9
  exact bodyPost_ret (v := .agg #[.int .i64 n, .int .u8 d0, .int .u8 d1, .int .u8 d2, .int .u8 d3, .int .u8 d4, .int .u8 d5, .int .u8 d6, .int .u8 d7, .int .u16 c]) (by simp [results, Tryd.results55, go_sem, g0, g1, g2, g3, g4, g5, g6, g7, g8, g9]) rfl ⟨rfl, hy⟩
end Go.Proofs.YthifegbmpmialaaDoor

namespace Go.Proofs.YthifegbmpmialaaDoor
open Go.RowKit
set_option linter.unusedVariables false
set_option linter.unusedSimpArgs false
theorem tkP_of5 (zs : List Int) (S : DS) (js : List (Int × Int)) (j : Nat) (h : ak js j = 5) : tkP zs S js j = tkC (stF (szL zs) S js (j + 1)).2.2.2 (dgL zs (stF (szL zs) S js (j + 1)).1) (chk (stF (szL zs) S js (j + 1)).2.2.2 (dgL zs (stF (szL zs) S js (j + 1)).1)) := by rw [tkP, if_pos h]
/-- the tickets one behind the other are a list of ten cells each -/
theorem tkL_form (zs : List Int) (S : DS) (js : List (Int × Int)) : ∀ N, ∃ F : Nat → Int × List Int × Int, tkL zs S js N = ((List.range (tkN js N)).map fun i => tkC (F i).1 (F i).2.1 (F i).2.2).flatten
  | 0 => ⟨fun _ => (0, [], 0), rfl⟩
  | N + 1 => by
    obtain ⟨F, hF⟩ := tkL_form zs S js N
    rw [tkL_succ, hF]
    by_cases h5 : ak js N = 5
    · rw [tkP_of5 zs S js N h5]
      refine ⟨fun i => if i < tkN js N then F i else ((stF (szL zs) S js (N + 1)).2.2.2, dgL zs (stF (szL zs) S js (N + 1)).1, chk (stF (szL zs) S js (N + 1)).2.2.2 (dgL zs (stF (szL zs) S js (N + 1)).1)), ?_⟩
      rw [show tkN js (N + 1) = tkN js N + 1 by rw [tkN, if_pos h5], List.range_succ, List.map_append, List.flatten_append]
      congr 1
      · congr 1
        apply List.map_congr_left
        intro i hi
        simp only [if_pos (List.mem_range.1 hi)]
      · simp
    · refine ⟨F, ?_⟩
      rw [show tkN js (N + 1) = tkN js N by rw [tkN, if_neg h5]; rfl, tkP, if_neg h5, List.append_nil]
theorem eqTicksL (zs : List Int) (S : DS) (js : List (Int × Int)) (b1 b2 : Nat) (v1 v2 : Value) (N : Nat) (w : World) (h1 : OwnX 52 10 w b1 v1 (tkN js N) (tkL zs S js N)) (h2 : OwnX 52 10 w b2 v2 (tkN js N) (tkL zs S js N)) :
    Calls Tryd.prog 28 #[v1, v2] w (GivesB w (.bool true)) := by
  obtain ⟨F, hF⟩ := tkL_form zs S js N
  rw [hF] at h1 h2
  exact eqTicket_own (fun i => tkC (F i).1 (F i).2.1 (F i).2.2) (fun _ => rfl) (fun k W => eqTicket_same _ _ _ _ _ _ _ _ _ _ W) b1 b2 v1 v2 _ w h1 h2
theorem eqTicksZ (zs : List Int) (S : DS) (js : List (Int × Int)) (b1 b2 : Nat) (v1 v2 : Value) (N : Nat) (w : World) (h1 : OwnX 52 10 w b1 v1 (tkN js N) (tkL zs S js N)) (h2 : OwnX 52 10 w b2 v2 (tkN js N) (tkL zs S js N)) :
    Calls Tryd.prog 28 #[v1, v2] w (GivesB w (.bool true)) := eqTicksL zs S js b1 b2 v1 v2 N w h1 h2
theorem rpF_okRp {z : Int} {S : DS} {js : List (Int × Int)} : ∀ N, rpF z S js N = 0 → okRp z S js N
  | 0, _ => okRp_zero _ _ _
  | N + 1, h => by
    rw [rpF] at h
    split at h
    · next hc => exact absurd h hc
    · next hc => exact okRp_succ (rpF_okRp N (by simpa using hc)) h
theorem actF_tk {z : Int} {S : DS} (k x : Int) (h : (actF z S k x).1 = 0) (ha : okAct k x = true) : (actF z S k x).2.1.2.2.2 = S.2.2.2 + (if k = 5 then 1 else 0) := by
  have hp : ∀ n s, (pulF z S n s).1.2.2.2 = S.2.2.2 := fun n s => by
    unfold pulF
    split
    · rfl
    · split
      · rfl
      · rfl
  by_cases k1 : k = 1
  · subst k1
    have e : actF z S 1 x = (0, pulF z S x 1) := by unfold actF; rw [if_pos rfl]
    rw [e, if_neg (by decide), Int.add_zero]; exact hp x 1
  by_cases k2 : k = 2
  · subst k2
    have e : actF z S 2 x = (0, pulF z S x (-1)) := by unfold actF; rw [if_neg (by omega), if_pos rfl]
    rw [e, if_neg (by decide), Int.add_zero]; exact hp x (-1)
  by_cases k3 : k = 3
  · subst k3
    by_cases c : z ≤ x
    · have e : actF z S 3 x = (2, S, 0) := by unfold actF; rw [if_neg (by omega), if_neg (by omega), if_pos rfl, if_pos c]
      rw [e] at h; simp at h
    · have e : actF z S 3 x = (0, (S.1, x, decide (S.1 = x), S.2.2.2), 0) := by unfold actF; rw [if_neg (by omega), if_neg (by omega), if_pos rfl, if_neg c]
      rw [e, if_neg (by decide), Int.add_zero]
  by_cases k4 : k = 4
  · subst k4
    have e : actF z S 4 x = (0, (0, S.2.1, decide (0 = S.2.1), S.2.2.2), 0) := by unfold actF; rw [if_neg (by omega), if_neg (by omega), if_neg (by omega), if_pos rfl]
    rw [e, if_neg (by decide), Int.add_zero]
  have k5 : k = 5 := by rcases okAct_kind ha with h | h | h | h | h <;> omega
  subst k5
  by_cases c : 1000000 ≤ S.2.2.2
  · have e : actF z S 5 x = (4, S, 0) := by unfold actF; rw [if_neg (by omega), if_neg (by omega), if_neg (by omega), if_neg (by omega), if_pos c]
    rw [e] at h; simp at h
  · have e : actF z S 5 x = (0, (S.1, S.2.1, S.2.2.1, S.2.2.2 + 1), 0) := by unfold actF; rw [if_neg (by omega), if_neg (by omega), if_neg (by omega), if_neg (by omega), if_neg c]
    rw [e, if_pos rfl]
theorem stF_tk {z : Int} {S : DS} {js : List (Int × Int)} (ha : okATo js js.length) : ∀ k, k ≤ js.length → okRp z S js k → (stF z S js k).2.2.2 = S.2.2.2 + (tkN js k : Int)
  | 0, _, _ => by show S.2.2.2 = _ + ((0 : Nat) : Int); omega
  | k + 1, hk, h => by
    have ih := stF_tk ha k (by omega) (fun j hj => h j (by omega))
    have e := actF_tk (z := z) (S := stF z S js k) (ak js k) (an js k) (h k (by omega)) (ha k (by omega))
    show (actF z (stF z S js k) (ak js k) (an js k)).2.1.2.2.2 = _
    rw [e, ih, tkN]
    split <;> simp <;> omega
theorem ticketOf_dg (zs : List Int) (m v : Int) (h : okL zs = true) (w : World) (hm : -9223372036854775808 ≤ m ∧ m ≤ 9223372036854775807) :
    Calls Tryd.prog 55 #[.int .i64 m, .agg (diC (dgL zs v)).toArray] w fun e w' => e = .returned (.agg (tkC m (dgL zs v) (chk m (dgL zs v))).toArray) ∧ Below w.heap.size w w' := by
  have h1 := ticketOf_any m (dg (dgL zs v) 0) (dg (dgL zs v) 1) (dg (dgL zs v) 2) (dg (dgL zs v) 3) (dg (dgL zs v) 4) (dg (dgL zs v) 5) (dg (dgL zs v) 6) (dg (dgL zs v) 7) w hm (dgL_octD zs v h)
  rw [dgs8] at h1
  exact h1
theorem ntC_range {w : World} {g : Nat} {T : TypeId} {k x : Int} {ds : List Int} {l : Int} (h : Row w g T (ntC k x ds l)) : w.rangeAt g 2 (diC ds) := fun j u hj => by
  have hl : j < 8 := by have := (List.getElem?_eq_some_iff.1 hj).1; simpa [diC_len] using this
  rw [h.cell (2 + j), ← hj]
  rcases (by omega : j = 0 ∨ j = 1 ∨ j = 2 ∨ j = 3 ∨ j = 4 ∨ j = 5 ∨ j = 6 ∨ j = 7) with rfl | rfl | rfl | rfl | rfl | rfl | rfl | rfl <;> rfl
theorem owns_slice {w : World} {base size n : Nat} {e : TypeId} {v : Value} {xs : List Value} (h : w.ownsRow base e size v n xs) : ∃ a cp, v = .slice a n cp := by
  rcases h.2 with ⟨rfl, h0⟩ | ⟨g, cap, cur, rfl, _⟩
  · exact ⟨none, 0, by rw [h0]⟩
  · exact ⟨_, _, rfl⟩
set_option maxRecDepth 100000 in
set_option maxHeartbeats 1500000 in
theorem implTicketsOf_any (B n cap : Nat) (zs ds : List Int) (v pr : Int) (st : Bool) (tk : Int) (b N acap : Nat) (js : List (Int × Int)) (w : World) (hS : Stk w B zs) (hn : n = zs.length) (hd8 : ds.length = 8) (ho : Oct (dg ds 0) (dg ds 1) (dg ds 2) (dg ds 3) (dg ds 4) (dg ds 5) (dg ds 6) (dg ds 7)) (hvv : okDev zs ds pr st tk = true → ds = dgL zs v ∧ okS (szL zs) (v, pr, st, tk)) (hA : Ast w b js) (hN : N = js.length) (a0 a1 a2 a3 : Addr) (hSN : SN w a0 a1 a2 a3) :
    Calls Tryd.prog 27 #[.agg (dvC (.slice (some ⟨B, 0, none⟩) n cap) ds pr st tk).toArray, (.slice (some ⟨b, 0, none⟩) N acap)] w (ListG 52 10 (tkN js N) (tkL zs (v, pr, st, tk) js N) (rcode zs ds v pr st tk js N) w) := by
  have hID : (Tryd.prog.info? 33).map (·.size) = some 12 := Tryd.infoDev
  have hIR : (Tryd.prog.info? 89).map (·.size) = some 14 := Tryd.infoRep
  obtain ⟨V, hV⟩ : ∃ V, V = w.alloc (.cells (dvC (.slice (some ⟨B, 0, none⟩) n cap) ds pr st tk).toArray 33) := ⟨_, rfl⟩
  have bV : Below w.heap.size w V := by rw [hV]; exact (Below.refl _ _).alloc (Nat.le_refl _) _
  have rP : Row V w.heap.size 33 (dvC (.slice (some ⟨B, 0, none⟩) n cap) ds pr st tk) := by rw [hV]; exact Row.new w _ _
  have HR := hid (replay_any B n cap zs ds v pr st tk b N acap js V (hS.below bV hS.1) hn hS.2.2.1 hd8 ho hvv (hA.below bV hA.1) hN a0 a1 a2 a3 (hSN.below bV trivial))
  have HCC := hid (rcode_code zs ds v pr st tk js N)
  have hFX : rcode zs ds v pr st tk js N = 0 → N ≤ 60 ∧ okL zs = true ∧ 0 ≤ tk ∧ tk ≤ 1000000 ∧ (∀ k, k ≤ N → (stF (szL zs) (v, pr, st, tk) js k).2.2.2 = tk + (tkN js k : Int)) := fun hc => by
    rw [rcode] at hc
    split at hc
    · exact absurd hc (by decide)
    · next hv =>
      split at hc
      · exact absurd hc (by decide)
      · next hb =>
        split at hc
        · exact absurd hc (by decide)
        · next h60 =>
          have hv' : okDev zs ds pr st tk = true := by simpa using hv
          have hb' : okAs js = true := by simpa using hb
          have hok := (hvv hv').2
          have hr : rpF (szL zs) (v, pr, st, tk) js N = 0 := by
            rw [rpE] at hc
            split at hc
            · next h => exact absurd hc h
            · next h => simpa using h
          exact ⟨by omega, okDev_okL hv', hok.2.2.2.1, hok.2.2.2.2, fun k hk => stF_tk (okAs_out hb') k (by omega) (fun j hj => rpF_okRp N hr j (by omega))⟩
  obtain ⟨c, hc⟩ : ∃ y, rcode zs ds v pr st tk js N = y := ⟨_, rfl⟩
  rw [hc] at HR HCC hFX ⊢
  obtain ⟨i0, hi, iz0, iz1, iz2⟩ := info_parts Tryd.infoTkD
  have HV := hid hV; have HSN := hid hSN; have HFX := hid hFX; have BV := hid bV
  clear hV hSN hS hn hd8 ho hvv hA hN hc hFX bV
  go_enter Tryd.func27, Tryd.ntmps27
  go_wp2_with ((with_reducible refine wpList_load_row rfl 33 _ rfl w.heap.size ?_ 33 (dvC (.slice (some ⟨B, 0, none⟩) n cap) ds pr st tk).toArray (0, 0) _ ?_ Tryd.underlying33 ?_ ?_ ?_); rfl; (rw [← HV.out]; exact rP); rfl; exact hID)
  rw [← HV.out]
  refine HR.out.mono ?_
  rintro e w1 ⟨dv, nv, l, rfl, hd12, hone, hnv, hXX, hB1⟩
  have b1 := BV.out.trans (hB1.mono BV.out.size)
  obtain ⟨V2, hV2⟩ : ∃ y, y = w1.alloc (.cells #[.slice none 0 0, .int .u8 0, .int .u8 0, .int .u8 0, .int .u8 0, .int .u8 0, .int .u8 0, .int .u8 0, .int .u8 0, .int .i64 0, .bool false, .int .i64 0, .slice none 0 0, .int .i64 0] 89) := ⟨_, rfl⟩
  have r7 : Row V2 w1.heap.size 89 rpZ := by rw [hV2]; exact Row.new w1 _ _
  have a2 : Below w1.heap.size w1 V2 := by rw [hV2]; exact (Below.refl _ _).alloc (Nat.le_refl _) _
  have T7 := r7.thereO 0 14 (by rw [rpZ_len]; omega)
  rw [hV2] at T7
  have HS14 := hid (show (rpC dv nv l).toArray.size = 14 by rw [List.size_toArray, rpC_length hd12])
  have hIR' : (Tryd.prog.info? 89).map (·.size) = some (rpC dv nv l).toArray.size := by rw [List.size_toArray, rpC_length hd12]; exact hIR
  obtain ⟨W2, hW2⟩ : ∃ y, y = V2.setCells w1.heap.size 0 (rpC dv nv l) := ⟨_, rfl⟩
  have r7b : Row W2 w1.heap.size 89 (rpC dv nv l) := by rw [hW2]; exact r7.setAll (by rw [rpC_length hd12, rpZ_len])
  have a3 : Below w1.heap.size w1 W2 := by rw [hW2]; exact below_setCellsD _ 0 _ a2 (Nat.le_refl _)
  have hEQ : World.setCells (w1.alloc (.cells #[.slice none 0 0, .int .u8 0, .int .u8 0, .int .u8 0, .int .u8 0, .int .u8 0, .int .u8 0, .int .u8 0, .int .u8 0, .int .i64 0, .bool false, .int .i64 0, .slice none 0 0, .int .i64 0] 89)) w1.heap.size 0 (rpC dv nv l).toArray.toList = W2 := by rw [← hV2]; exact hW2.symm
  have HEQ := hid hEQ
  have c12 := rpC_notes r7b hd12
  have hXX2 : XR V.heap.size zs (v, pr, st, tk) js N c dv nv l W2 := hXX.keep (fun q h1 h2 => a3.block q h2) a3.size
  have bVW := hid (hB1.trans (a3.mono hB1.size))
  have RP := hid rP
  have bW := hid (b1.trans (a3.mono b1.size))
  have HO := hid (rpC_ones hone hnv (l := l))
  obtain ⟨g7, hg7⟩ : ∃ y, y = w1.heap.size := ⟨_, rfl⟩
  have C12 := hid c12
  clear hEQ hW2 hV2 r7 a2 a3 r7b hXX hone hnv hB1 b1 rP c12
  go_upto_region 2 with ((with_reducible refine wpList_store_mid rfl 89 _ _ rfl w1.heap.size 0 (rpC dv nv l).toArray ?_ ?_ ?_ ?_ (all_oneCell_toArray HO.out) ?_); rfl; rfl; (rw [HS14.out]; exact T7); exact hIR')
  rw [HEQ.out]
  try simp only [Act.put]
  have c12 := C12.out
  rw [← hg7] at c12 ⊢
  have HC12 := hid c12
  clear T7 HEQ hg7 C12 c12 HO hIR' HS14 hd12
  rcases hXX2 with ⟨hc, g, cp, rest, base, _, _, hG, hg, hgb, hbs, oN⟩ | ⟨hc, _, rfl, _⟩
  · subst hc
    obtain ⟨h60, hzL, ht0, ht1, hst⟩ := HFX.out rfl
    have c12 := HC12.out
    obtain ⟨an, cn, rfl⟩ := owns_slice oN
    have HST := hid hst
    have HON := hid (fun (h1 : 1 ≤ N) => owns_row oN h1)
    have HZL := hid hzL
    clear hG hg hgb oN hst hzL
    go_wp2_with fail
    go_loopw [8, 20] (fun t8 i wr => ∃ (k : Nat) (lv : Value), k ≤ N ∧ i = .int .i64 k ∧ t8 = lv ∧ wr.ownsRow W2.heap.size 52 10 lv (tkN js k) (tkL zs (v, pr, st, tk) js k) ∧ Below W2.heap.size W2 wr) (fun _ i _ => N - (intOf i).toNat)
    case atStart => exact ⟨0, _, Nat.zero_le _, rfl, rfl, ⟨rfl, .inl ⟨rfl, rfl⟩⟩, Below.refl _ _⟩
    case round =>
      clear c12
      obtain ⟨k, lv, hk, rfl, hlv, oT, bw⟩ := hrel
      replace hlv := hlv.symm
      subst hlv
      have k0 : (0 : Int) ≤ (k : Int) := by omega
      by_cases hkn : k < N
      · have k1 : (k : Int) < (N : Int) := by omega
        obtain ⟨gN, cpN, rsN, eN, _, hR⟩ := HON.out (by omega)
        injection eN with e1 e2 e3
        subst e1
        have hR2 := hR.below bw hR.lt
        have hrng := row_range (ntP_len (szL zs) zs (v, pr, st, tk) js) hR2 hkn
        have eT := tkL_succ zs (v, pr, st, tk) js k
        have eTN : tkN js (k + 1) = tkN js k + (if ak js k = 5 then 1 else 0) := rfl
        have hTN := tkN_le js k
        have hst := HST.out (k + 1) (by omega)
        unfold tkP at eT
        have eP : ntP (szL zs) zs (v, pr, st, tk) js k = ntC (ak js k) (an js k) (dgL zs (stF (szL zs) (v, pr, st, tk) js (k + 1)).1) (loF (szL zs) (v, pr, st, tk) js k) := rfl
        rw [eP] at hrng
        obtain ⟨⟨tv, tpr, tst, ttk⟩, hS⟩ : ∃ T : DS, stF (szL zs) (v, pr, st, tk) js (k + 1) = T := ⟨_, rfl⟩
        obtain ⟨p, hp⟩ : ∃ y, ak js k = y := ⟨_, rfl⟩
        obtain ⟨q, hq⟩ : ∃ y, an js k = y := ⟨_, rfl⟩
        obtain ⟨l', hl'⟩ : ∃ y, loF (szL zs) (v, pr, st, tk) js k = y := ⟨_, rfl⟩
        rw [hS] at hst eT hrng
        rw [hp] at eT eTN hrng
        rw [hq, hl'] at hrng
        simp only at hst eT
        obtain ⟨T, hT⟩ : ∃ y, tkN js k = y := ⟨_, rfl⟩
        rw [hT] at oT eTN hTN
        obtain ⟨la, lc, rfl⟩ := owns_slice oT
        have w1' : IntKind.i64.wrap ((k : Int) + 1) = (k : Int) + 1 := IntWalk.i64_in _ (by omega)
        obtain ⟨V4, hV4⟩ : ∃ y, y = wr.alloc (.cells #[.int .i8 0, .int .i64 0, .int .u8 0, .int .u8 0, .int .u8 0, .int .u8 0, .int .u8 0, .int .u8 0, .int .u8 0, .int .u8 0, .int .i64 0] 87) := ⟨_, rfl⟩
        have r10 : Row V4 wr.heap.size 87 ntZ := by rw [hV4]; exact Row.new wr _ _
        have a4 : Below wr.heap.size wr V4 := by rw [hV4]; exact (Below.refl _ _).alloc (Nat.le_refl _) _
        have T10 := r10.thereO 0 11 (by rw [ntZ_len]; omega)
        rw [hV4] at T10
        obtain ⟨W5, hW5⟩ : ∃ y, y = V4.setCells wr.heap.size 0 (ntC p q (dgL zs tv) l') := ⟨_, rfl⟩
        have r10b : Row W5 wr.heap.size 87 (ntC p q (dgL zs tv) l') := by rw [hW5]; exact r10.setAll rfl
        have a5 : Below wr.heap.size wr W5 := by rw [hW5]; exact below_setCellsD _ 0 _ a4 (Nat.le_refl _)
        have hEQ : World.setCells (wr.alloc (.cells #[.int .i8 0, .int .i64 0, .int .u8 0, .int .u8 0, .int .u8 0, .int .u8 0, .int .u8 0, .int .u8 0, .int .u8 0, .int .u8 0, .int .i64 0] 87)) wr.heap.size 0 (ntC p q (dgL zs tv) l').toArray.toList = W5 := by rw [← hV4]; exact hW5.symm
        have HEQ := hid hEQ
        have oT5 := owns_belowP oT a5
        have bw5 := bw.trans (a5.mono bw.size)
        have hIN : (Tryd.prog.info? 87).map (·.size) = some 11 := Tryd.infoNote
        have HTT := hid hT; have HP := hid hp; have HET := hid eT; have HETN := hid eTN; have HST1 := hid hst; have HS1 := hid hS
        have R10 := hid r10b; have OT5 := hid oT5; have BW5 := hid bw5
        obtain ⟨g10, hg10⟩ : ∃ y, y = wr.heap.size := ⟨_, rfl⟩
        clear hEQ hW5 hV4 r10 a4 a5 hT hp hq hl' hS eT eTN hst eP e2 e3 hR hR2 oT oT5 bw bw5 r10b
        go_upto_region 6 with (first | ((with_reducible refine wpList_load_mid rfl 87 _ rfl gN (k * 11) ?_ (ntC p q (dgL zs tv) l') _ ?_ Tryd.underlying87 ?_ ?_ ?_); rfl; exact hrng; rfl; exact hIN) | ((with_reducible refine wpList_store_mid rfl 87 _ _ rfl wr.heap.size 0 (ntC p q (dgL zs tv) l').toArray ?_ ?_ ?_ ?_ (all_oneCell_toArray (ntC_one _ _ _ _)) ?_); rfl; rfl; exact T10; exact hIN))
        rw [HEQ.out]
        try simp only [Act.put]
        have r10b := R10.out
        rw [← hg10] at r10b ⊢
        have R10b := hid r10b
        have e0 : W5.cell? ⟨g10, 0, none⟩ = some (.int .i8 p) := r10b.cell 0
        clear T10 HEQ R10 r10b hg10 hrng
        by_cases p5 : p = 5
        · subst p5
          have HTKN := hid (show tkN js (k + 1) = T + 1 by rw [HETN.out, if_pos rfl])
          have eT := HET.out
          rw [if_pos rfl] at eT
          have hst := HST1.out
          rw [HTKN.out] at hst
          have hst2 : ttk = tk + (T : Int) + 1 := by omega
          rw [hst2] at eT
          have RPW := RP.out.below (bVW.out.trans (BW5.out.mono bVW.out.size)) RP.out.lt
          have e11 : W5.cell? ⟨w.heap.size, 11, none⟩ = some (.int .i64 tk) := RPW.cell 11
          have ws1 : IntKind.i64.wrap (tk + (T : Int)) = tk + (T : Int) := IntWalk.i64_in _ (by omega)
          have ws2 : IntKind.i64.wrap (tk + (T : Int) + 1) = tk + (T : Int) + 1 := IntWalk.i64_in _ (by omega)
          have HET2 := hid eT
          have HTB := hid (show -9223372036854775808 ≤ tk + (T : Int) + 1 ∧ tk + (T : Int) + 1 ≤ 9223372036854775807 by omega)
          have rgD := ntC_range R10b.out
          have hIG : (Tryd.prog.info? 31).map (·.size) = some 8 := Tryd.infoDigs
          clear eT hst hst2 RPW
          go_wp2_with ((with_reducible refine wpList_load_mid rfl 31 _ rfl g10 2 ?_ (diC (dgL zs tv)) _ ?_ Tryd.underlying31 ?_ ?_ ?_); rfl; exact rgD; rfl; exact hIG)
          with_reducible refine (ticketOf_dg zs (tk + (T : Int) + 1) tv HZL.out W5 HTB.out).mono ?_
          rintro e w6 ⟨rfl, hB6⟩
          have oT6 := owns_belowP OT5.out hB6
          have bw6 := BW5.out.trans (hB6.mono BW5.out.size)
          obtain ⟨CH, hCH⟩ : ∃ y, chk (tk + (T : Int) + 1) (dgL zs tv) = y := ⟨_, rfl⟩
          have eT2 := HET2.out
          rw [hCH] at eT2 ⊢
          have HO4 := hid (oT6.alloc (.cells (tkC (tk + (T : Int) + 1) (dgL zs tv) CH).toArray 52))
          have nc := hid (cellsAt (Row.new w6 52 (tkC (tk + (T : Int) + 1) (dgL zs tv) CH)))
          have HB7 := hid (show Below W2.heap.size W2 (w6.alloc (.cells (tkC (tk + (T : Int) + 1) (dgL zs tv) CH).toArray 52)) from bw6.alloc bw6.size _)
          have hnl : (tkC (tk + (T : Int) + 1) (dgL zs tv) CH).length = 10 := tkC_len _ _ _
          have HBW := hid (show W2.heap.size ≤ (w6.alloc (.cells (tkC (tk + (T : Int) + 1) (dgL zs tv) CH).toArray 52)).heap.size by simp; have := bw6.size; omega)
          have HBS := hid bw6.size
          have HEF := hid eT2
          clear e11 e0 rgD hB6 oT6 bw6 hCH eT2
          go_wp2_with (at_builtin; rw [tkFold]; refine wpList_append_own _ rfl _ _ 57 rfl W2.heap.size 52 i0 (.agg #[.int .i64 0, .int .u8 0, .int .u8 0, .int .u8 0, .int .u8 0, .int .u8 0, .int .u8 0, .int .u8 0, .int .u8 0, .int .u16 0]) 10 24 Tryd.underlying57 hi iz0 iz1 iz2 rfl (by decide) _ _ _ rfl HO4.out ⟨w6.heap.size, 0, none⟩ 1 1 (tkC (tk + (T : Int) + 1) (dgL zs tv) CH) rfl rfl nc.out (tkC_one _ _ _) (by unfold maxLen; omega) (by omega) HBW.out ?_; rintro v' w7 hown' hgrow -; have OWN := hid hown'; have GRW := hid hgrow; clear hown' hgrow)
          have bw7 : Below W2.heap.size W2 w7 := HB7.out.grown GRW.out HBW.out (fun kk e => by have := (HO4.out.lt kk e).1; omega)
          have BW7 := hid bw7
          clear bw7
          go_roundw
          case rel => exact ⟨k + 1, v', by omega, by go_num, rfl, by rw [HTKN.out, HEF.out]; exact OWN.out, BW7.out⟩
          case measure => simp [intOf]; omega
        · have HTKN := hid (show tkN js (k + 1) = T by rw [HETN.out, if_neg p5]; rfl)
          have eT := HET.out
          rw [if_neg p5, List.append_nil] at eT
          have HET2 := hid eT
          have p5b : (p == 5) = false := by simpa using p5
          clear eT
          go_wp2_with fail
          go_roundw
          case rel => exact ⟨k + 1, .slice la T lc, by omega, by go_num, rfl, by rw [HTKN.out, HET2.out]; exact OT5.out, BW5.out⟩
          case measure => simp [intOf]; omega
      · obtain rfl : k = N := by omega
        have bww := hid (bW.out.trans (bw.mono bW.out.size))
        have OT := hid oT
        have HB9 := hid bw
        clear oT bw
        go_wp2_with fail
        with_reducible refine (codeBehind_any 0 (.inl rfl) a0 a1 a2 a3 wr (HSN.out.below bww.out trivial)).mono ?_
        rintro e w9 ⟨rfl, h9⟩
        subst h9
        go_wp2_with fail
        refine bodyPost_ret (v := .tuple #[lv, .int .i64 0]) (by simp [results, Tryd.results27, go_sem]) rfl ?_
        refine ListG.mk rfl (by rw [if_pos rfl, if_pos rfl]; exact (OwnX.of_owns OT.out (by have := tkN_le js k; omega)).lowb bW.out.size) bww.out
  · have c12 := HC12.out
    have HNC := hid hc
    clear hc
    go_wp2_with fail
    go_loopw [8, 20] (fun t8 i wr => t8 = .slice none 0 0 ∧ (∃ k : Nat, k = 0 ∧ i = .int .i64 k) ∧ wr = W2) (fun _ _ _ => 0)
    case atStart => exact ⟨rfl, ⟨0, rfl, rfl⟩, rfl⟩
    case round =>
      obtain ⟨rfl, ⟨k, hk, rfl⟩, hwr⟩ := hrel
      subst hwr
      clear c12
      have k1 : ¬ (k : Int) < 0 := by omega
      go_wp2_with fail
      with_reducible refine (codeBehind_any c HCC.out a0 a1 a2 a3 wr (HSN.out.below bW.out trivial)).mono ?_
      rintro e w9 ⟨rfl, h9⟩
      subst h9
      go_wp2_with fail
      refine bodyPost_ret (v := .tuple #[.slice none 0 0, .int .i64 c]) (by simp [results, Tryd.results27, go_sem]) rfl ?_
      refine ListG.mk rfl (by rw [if_neg HNC.out, if_neg HNC.out]; exact OwnX.nil _ _ _ _ _ _) bW.out
end Go.Proofs.YthifegbmpmialaaDoor

namespace Go.Proofs.YthifegbmpmialaaDoor
open Go.RowKit
set_option linter.unusedVariables false
set_option linter.unusedSimpArgs false
/-- a device that a call gives, its stack its own, a ticket and a code -/
def PrtG (E es : List Int) (P : Int) (St : Bool) (T : Int) (m : Int) (tds : List Int) (ch c : Int) (w : World) (e : Ending) (w' : World) : Prop :=
  ∃ a n cap, e = .returned (.tuple #[.agg (dvC (.slice a n cap) es P St T).toArray, .agg (tkC m tds ch).toArray, .int .i64 c]) ∧ OwnB w' w.heap.size (.slice a n cap) E ∧ Below w.heap.size w w'
def PrtO (zs : List Int) (S : DS) (js : List (Int × Int)) (N : Nat) (c : Int) (w : World) (e : Ending) (w' : World) : Prop :=
  PrtG (oE zs c) (oD zs S js N c) (oS (szL zs) S js N c).2.1 (oS (szL zs) S js N c).2.2.1 (oS (szL zs) S js N c).2.2.2 (oS (szL zs) S js N c).2.2.2 (oD zs S js N c) (if c = 0 then chk (oS (szL zs) S js N c).2.2.2 (oD zs S js N c) else 0) c w e w'
def tkZ : List Value := [.int .i64 0, .int .u8 0, .int .u8 0, .int .u8 0, .int .u8 0, .int .u8 0, .int .u8 0, .int .u8 0, .int .u8 0, .int .u16 0]
theorem tkZ_len : tkZ.length = 10 := rfl
theorem tkZ_oneT : tkZ.toArray.all (·.oneCell') = true := all_oneCell_toArray (tkC_one 0 [] 0)
theorem PrtO.no {zs : List Int} {S : DS} {js : List (Int × Int)} {N : Nat} {c : Int} {w w' : World} {e : Ending} (hc : c ≠ 0) (he : e = .returned (.tuple #[.agg dvZ.toArray, .agg tkZ.toArray, .int .i64 c])) (hB : Below w.heap.size w w') : PrtO zs S js N c w e w' := by
  unfold PrtO oE oD oS
  rw [if_neg hc, if_neg hc, if_neg hc, if_neg hc]
  exact ⟨none, 0, 0, he, OwnB.nil _ _ _ _, hB⟩
theorem PrtO.yes {zs : List Int} {S : DS} {js : List (Int × Int)} {N : Nat} {c : Int} {w w' : World} {e : Ending} {g cp : Nat} {rest : List Value} {tv tpr : Int} {tst : Bool} {ttk : Int} (hc : c = 0) (hs : stF (szL zs) S js N = (tv, tpr, tst, ttk)) (he : e = .returned (.tuple #[.agg (dvC (.slice (some ⟨g, 0, none⟩) zs.length cp) (dgL zs tv) tpr tst ttk).toArray, .agg (tkC ttk (dgL zs tv) (chk ttk (dgL zs tv))).toArray, .int .i64 c])) (hz : zs.length ≤ 1099511627776) (hg : w.heap.size ≤ g) (hR : Row w' g 5 (zs.map (Value.int .u8) ++ rest)) (hB : Below w.heap.size w w') : PrtO zs S js N c w e w' := by
  unfold PrtO oE oD oS
  rw [if_pos hc, if_pos hc, if_pos hc, if_pos hc, hs]
  exact ⟨some ⟨g, 0, none⟩, zs.length, cp, he, ⟨_, _, rfl, hz, .inr ⟨g, rest, rfl, hg, hR⟩⟩, hB⟩
theorem errV_ne {c : Int} (a0 a1 a2 a3 : Addr) (hc : c ≠ 0) : ∃ ea : Addr, errV c a0 a1 a2 a3 = .iface 161 (.pointer (some ea)) := by
  unfold errV
  rw [if_neg hc]
  split
  · exact ⟨a0, rfl⟩
  · split
    · exact ⟨a2, rfl⟩
    · split
      · exact ⟨a1, rfl⟩
      · exact ⟨a3, rfl⟩
theorem dvC_range0 {w : World} {g : Nat} {T : TypeId} {v0 : Value} {ds : List Int} {pr : Int} {st : Bool} {tk : Int} {nv : Value} {l : Int} (h : Row w g T (rpC (dvC v0 ds pr st tk) nv l)) : w.rangeAt g 1 (diC ds) := fun j u hj => by
  have hl : j < 8 := by have := (List.getElem?_eq_some_iff.1 hj).1; simpa [diC_len] using this
  rw [h.cell (1 + j), ← hj]
  rcases (by omega : j = 0 ∨ j = 1 ∨ j = 2 ∨ j = 3 ∨ j = 4 ∨ j = 5 ∨ j = 6 ∨ j = 7) with rfl | rfl | rfl | rfl | rfl | rfl | rfl | rfl <;> rfl
set_option maxRecDepth 100000 in
set_option maxHeartbeats 1500000 in
theorem specPrintTicket_any (B n cap : Nat) (zs ds : List Int) (v pr : Int) (st : Bool) (tk : Int) (w : World) (hS : Stk w B zs) (hn : n = zs.length) (hd8 : ds.length = 8) (ho : Oct (dg ds 0) (dg ds 1) (dg ds 2) (dg ds 3) (dg ds 4) (dg ds 5) (dg ds 6) (dg ds 7)) (hvv : okDev zs ds pr st tk = true → ds = dgL zs v ∧ okS (szL zs) (v, pr, st, tk)) :
    Calls Tryd.prog 23 #[.agg (dvC (.slice (some ⟨B, 0, none⟩) n cap) ds pr st tk).toArray] w (PrtO zs (v, pr, st, tk) [((5 : Int), (0 : Int))] 1 (rcode zs ds v pr st tk [((5 : Int), (0 : Int))] 1) w) := by
  have hID : (Tryd.prog.info? 33).map (·.size) = some 12 := Tryd.infoDev
  have hIK : (Tryd.prog.info? 52).map (·.size) = some 10 := by kernel_rfl
  obtain ⟨V, hV⟩ : ∃ y, y = (((w.alloc (.cells (dvC (.slice (some ⟨B, 0, none⟩) n cap) ds pr st tk).toArray 33)).alloc (.cells #[.slice none 0 0, .int .u8 0, .int .u8 0, .int .u8 0, .int .u8 0, .int .u8 0, .int .u8 0, .int .u8 0, .int .u8 0, .int .i64 0, .bool false, .int .i64 0] 33)).alloc (.cells #[.int .i64 0, .int .u8 0, .int .u8 0, .int .u8 0, .int .u8 0, .int .u8 0, .int .u8 0, .int .u8 0, .int .u8 0, .int .u16 0] 52)) := ⟨_, rfl⟩
  have bV : Below w.heap.size w V := by rw [hV]; exact (((Below.refl _ _).alloc (Nat.le_refl _) _).alloc (by simp) _).alloc (by simp; omega) _
  have rP : Row V w.heap.size 33 (dvC (.slice (some ⟨B, 0, none⟩) n cap) ds pr st tk) := by rw [hV]; exact ((Row.new w _ _).alloc _).alloc _
  have rZ : Row V (w.heap.size + 1) 33 dvZ := by
    have h := (Row.new (w.alloc (.cells (dvC (.slice (some ⟨B, 0, none⟩) n cap) ds pr st tk).toArray 33)) 33 dvZ).alloc (.cells #[.int .i64 0, .int .u8 0, .int .u8 0, .int .u8 0, .int .u8 0, .int .u8 0, .int .u8 0, .int .u8 0, .int .u8 0, .int .u16 0] 52)
    simp only [World.size_alloc] at h
    rw [hV]; exact h
  have rT : Row V (w.heap.size + 2) 52 tkZ := by
    have h := Row.new ((w.alloc (.cells (dvC (.slice (some ⟨B, 0, none⟩) n cap) ds pr st tk).toArray 33)).alloc (.cells #[.slice none 0 0, .int .u8 0, .int .u8 0, .int .u8 0, .int .u8 0, .int .u8 0, .int .u8 0, .int .u8 0, .int .u8 0, .int .i64 0, .bool false, .int .i64 0] 33)) 52 tkZ
    simp only [World.size_alloc] at h
    rw [hV]; exact h
  have sV : V.heap.size = w.heap.size + 3 := by rw [hV]; simp
  obtain ⟨V1, hV1⟩ : ∃ y, y = V.alloc (.cells #[.int .i8 5, .int .i64 0] 37) := ⟨_, rfl⟩
  have aV1 : Below V.heap.size V V1 := by rw [hV1]; exact (Below.refl _ _).alloc (Nat.le_refl _) _
  have rA : Row V1 (w.heap.size + 3) 37 [.int .i8 5, .int .i64 0] := by
    have h := Row.new V 37 [.int .i8 5, .int .i64 0]
    rw [sV] at h
    rw [hV1]; exact h
  have sA : Ast V1 (w.heap.size + 3) [((5 : Int), (0 : Int))] := ⟨rA.lt, fun j hj => by
    have hj0 : j = 0 := by simp at hj; omega
    subst hj0
    exact ⟨rA.cell 0, rA.cell 1⟩, by simp⟩
  have bV1 := bV.trans (aV1.mono bV.size)
  have HR := hid (l07Run_any w.heap.size B n cap zs ds v pr st tk (w.heap.size + 3) 1 1 [((5 : Int), (0 : Int))] V1 (rP.below aV1 rP.lt) (hS.below bV1 hS.1) hn hd8 ho hvv sA rfl)
  have HZL := hid (show zs.length ≤ 1099511627776 by have := hS.2.2.2; omega)
  obtain ⟨c, hc⟩ : ∃ y, (rcode zs ds v pr st tk [((5 : Int), (0 : Int))] 1) = y := ⟨_, rfl⟩
  rw [hc] at HR ⊢
  have HV := hid hV; have HV1 := hid hV1; have BV := hid bV1; have RZ := hid (rZ.below aV1 rZ.lt); have RT := hid (rT.below aV1 rT.lt); have HSV := hid (show V1.heap.size = w.heap.size + 4 by rw [hV1]; simp; omega); have HSV0 := hid sV
  clear hV hV1 bV bV1 rP rZ rT sV aV1 rA sA hS hn hd8 ho hvv hc
  go_enter Tryd.func23, Tryd.ntmps23
  go_wp2_with fail
  rw [← HV.out]
  try rw [HSV0.out]
  rw [← HV1.out]
  refine HR.out.mono ?_
  rintro e w1 ⟨⟨hc, g, cp, rest, nv, tv', bn, bt, rfl, hg, hG, hbn, oN, hbt, oT⟩ | ⟨hc, x1, x2, rfl⟩, hB1⟩
  · subst hc
    have eTL : tkL zs (v, pr, st, tk) [((5 : Int), (0 : Int))] 1 = tkC (stF (szL zs) (v, pr, st, tk) [((5 : Int), (0 : Int))] 1).2.2.2 (dgL zs (stF (szL zs) (v, pr, st, tk) [((5 : Int), (0 : Int))] 1).1) (chk (stF (szL zs) (v, pr, st, tk) [((5 : Int), (0 : Int))] 1).2.2.2 (dgL zs (stF (szL zs) (v, pr, st, tk) [((5 : Int), (0 : Int))] 1).1)) := by
      rw [tkL_succ, tkL_zero, List.nil_append, tkP_of5 zs (v, pr, st, tk) [((5 : Int), (0 : Int))] 0 rfl]
    rw [eTL] at oT
    obtain ⟨⟨tv, tpr, tst, ttk⟩, hST⟩ : ∃ T : DS, (stF (szL zs) (v, pr, st, tk) [((5 : Int), (0 : Int))] 1) = T := ⟨_, rfl⟩
    rw [hST] at oT ⊢
    have e9 : (dvS (.slice (some ⟨g, 0, none⟩) zs.length cp) zs (tv, tpr, tst, ttk)) = (dvC (.slice (some ⟨g, 0, none⟩) zs.length cp) (dgL zs tv) tpr tst ttk) := rfl
    rw [e9]
    simp only at oT
    clear e9 eTL
    obtain ⟨CH, hCH⟩ : ∃ y, chk ttk (dgL zs tv) = y := ⟨_, rfl⟩
    rw [hCH] at oT
    have HCH := hid hCH
    obtain ⟨V2, hV2⟩ : ∃ y, y = w1.alloc (.cells #[.slice none 0 0, .int .u8 0, .int .u8 0, .int .u8 0, .int .u8 0, .int .u8 0, .int .u8 0, .int .u8 0, .int .u8 0, .int .i64 0, .bool false, .int .i64 0] 33) := ⟨_, rfl⟩
    have r7 : Row V2 w1.heap.size 33 dvZ := by rw [hV2]; exact Row.new w1 _ dvZ
    have a2 : Below w1.heap.size w1 V2 := by rw [hV2]; exact (Below.refl _ _).alloc (Nat.le_refl _) _
    have T7 := r7.thereO 0 12 (by rw [dvZ_len]; omega)
    rw [hV2] at T7
    obtain ⟨W3, hW3⟩ : ∃ y, y = V2.setCells w1.heap.size 0 (dvC (.slice (some ⟨g, 0, none⟩) zs.length cp) (dgL zs tv) tpr tst ttk) := ⟨_, rfl⟩
    have r7b : Row W3 w1.heap.size 33 (dvC (.slice (some ⟨g, 0, none⟩) zs.length cp) (dgL zs tv) tpr tst ttk) := by rw [hW3]; exact r7.setAll rfl
    have a3 : Below w1.heap.size w1 W3 := by rw [hW3]; exact below_setCellsD _ 0 _ a2 (Nat.le_refl _)
    have hEQ : World.setCells (w1.alloc (.cells #[.slice none 0 0, .int .u8 0, .int .u8 0, .int .u8 0, .int .u8 0, .int .u8 0, .int .u8 0, .int .u8 0, .int .u8 0, .int .i64 0, .bool false, .int .i64 0] 33)) w1.heap.size 0 (dvC (.slice (some ⟨g, 0, none⟩) zs.length cp) (dgL zs tv) tpr tst ttk).toArray.toList = W3 := by rw [← hV2]; exact hW3.symm
    have HEQ := hid hEQ
    clear hEQ hW3 hV2 r7 a2
    have RZ3 := hid ((RZ.out.below hB1 RZ.out.lt).below a3 (Nat.lt_of_lt_of_le RZ.out.lt hB1.size))
    have RT3 := hid ((RT.out.below hB1 RT.out.lt).below a3 (Nat.lt_of_lt_of_le RT.out.lt hB1.size))
    have RG3 := hid (hG.below a3 hG.lt)
    obtain ⟨gT, cT, rsT, eT, hbT, rK0⟩ := owns_row (owns_belowP oT a3) (Nat.le_refl 1)
    have hB3 := BV.out.trans (hB1.mono BV.out.size)
    have B4 := hid (hB3.trans (a3.mono hB3.size))
    have RK := hid rK0
    have hsv := HSV.out
    have HST := hid hST
    have HGE := hid (show w.heap.size + 4 ≤ g by omega)
    have HGT := hid (show w.heap.size + 4 ≤ gT by omega)
    have HG7' := hid (show w.heap.size + 4 ≤ w1.heap.size by have := hB1.size; omega)
    obtain ⟨g7, hg7⟩ : ∃ y, y = w1.heap.size := ⟨_, rfl⟩
    have R7' := hid r7b
    clear a3 hG oN oT hB1 hg hbn hbt r7b hST hCH rK0 hB3 hbT hsv
    have eT' : tv' = .slice (some ⟨gT, 0, none⟩) 1 cT := eT
    clear eT
    subst eT'
    go_upto_region 2 with ((with_reducible refine wpList_store_mid rfl 33 _ _ rfl w1.heap.size 0 (dvC (.slice (some ⟨g, 0, none⟩) zs.length cp) (dgL zs tv) tpr tst ttk).toArray ?_ ?_ ?_ ?_ (all_oneCell_toArray (dvC_one _ _ _ _ _ _ _)) ?_); rfl; rfl; exact T7; exact hID)
    rw [HEQ.out]
    try simp only [Act.put]
    have r7c := R7'.out; have hg7c := HG7'.out
    rw [← hg7] at r7c hg7c ⊢
    have R7 := hid r7c; have HG7 := hid hg7c
    clear T7 HEQ hg7 R7' r7c HG7' hg7c
    go_upto_region 4 with fail
    refine wp_region_held (S := fun W' : World => Row W' g7 33 (dvC (.slice (some ⟨g, 0, none⟩) zs.length cp) (dgL zs tv) tpr tst ttk) ∧ W'.rangeAt gT 0 (tkC ttk (dgL zs tv) CH)) (by kernel_rfl) ?_
    change wpAnyH _ _ _ _ _ _ _ _ (World.drew _)
    obtain ⟨W0, hW0⟩ : ∃ X, X = World.drew W3 := ⟨_, rfl⟩
    have hD0 : Below W3.heap.size W3 W0 := by rw [hW0]; exact (Below.refl _ _).drew
    have rD := R7.out.below hD0 R7.out.lt; have rK := RK.out.below hD0 RK.out.lt; have rZ := RZ3.out.below hD0 RZ3.out.lt; have rT := RT3.out.below hD0 RT3.out.lt; have hG := RG3.out.below hD0 RG3.out.lt
    have bWW := B4.out.trans (hD0.mono B4.out.size)
    rw [← hW0]
    clear hW0 hD0
    have kr : ∀ {Y : World}, Row Y gT 52 ((tkC ttk (dgL zs tv) CH) ++ rsT) → Y.rangeAt gT 0 (tkC ttk (dgL zs tv) CH) := fun h j u hj => by
      rw [h.cell (0 + j), Nat.zero_add, List.getElem?_append_left (List.getElem?_eq_some_iff.1 hj).1]; exact hj
    have hS0 : (fun W' : World => Row W' g7 33 (dvC (.slice (some ⟨g, 0, none⟩) zs.length cp) (dgL zs tv) tpr tst ttk) ∧ W'.rangeAt gT 0 (tkC ttk (dgL zs tv) CH)) W0 := ⟨rD, kr rK⟩
    refine wpAnyH_takeD (some 22) (i := 0) (v := .agg (dvC (.slice (some ⟨g, 0, none⟩) zs.length cp) (dgL zs tv) tpr tst ttk).toArray) rfl rfl (by kernel_rfl) (by kernel_rfl) (by kernel_rfl) (fun _ _ _ h => h) (.inl ⟨by kernel_rfl, ?_⟩) hS0 ?_
    · intro w' hw'; exact exec_load_row 33 _ rfl g7 rfl 33 (dvC (.slice (some ⟨g, 0, none⟩) zs.length cp) (dgL zs tv) tpr tst ttk).toArray _ (hw'.1) Tryd.underlying33 rfl hID
    try simp only [Act.put, List.setIfInBounds_toArray, List.set_cons_zero, List.set_cons_succ]
    refine wpAnyH_takeD (some 23) (i := 1) (v := ?_) rfl rfl (by kernel_rfl) (by kernel_rfl) (by kernel_rfl) (fun _ _ _ h => h) (.inl ⟨by kernel_rfl, ?_⟩) hS0 ?_
    rotate_left
    · intro w' hw'; clear hw'; go_simp; try with_reducible rfl
    try simp only [Act.put, List.setIfInBounds_toArray, List.set_cons_zero, List.set_cons_succ]
    refine wpAnyH_takeD (some 24) (i := 2) (v := ?_) rfl rfl (by kernel_rfl) (by kernel_rfl) (by kernel_rfl) (fun _ _ _ h => h) (.inl ⟨by kernel_rfl, ?_⟩) hS0 ?_
    rotate_left
    · intro w' hw'; clear hw'; go_simp; try with_reducible rfl
    try simp only [Act.put, List.setIfInBounds_toArray, List.set_cons_zero, List.set_cons_succ]
    refine wpAnyH_takeD (some 25) (i := 3) (v := .agg (tkC ttk (dgL zs tv) CH).toArray) rfl rfl (by kernel_rfl) (by kernel_rfl) (by kernel_rfl) (fun _ _ _ h => h) (.inl ⟨by kernel_rfl, ?_⟩) hS0 ?_
    · intro w' hw'; exact exec_load_mid 52 _ rfl gT 0 rfl (tkC ttk (dgL zs tv) CH) _ (hw'.2) Tryd.underlying52 rfl hIK
    try simp only [Act.put, List.setIfInBounds_toArray, List.set_cons_zero, List.set_cons_succ]
    have r1 := rZ; have r2 := rT
    refine wpAnyH_all (rs := [4]) (by kernel_rfl) (by simp) ?_
    intro i hi; simp only [List.mem_cons, List.not_mem_nil, or_false] at hi
    subst hi
    refine wpOp_step rfl (fun K hK => ?_)
    rw [if_pos (by kernel_rfl)]
    refine wp_store_mid 33 (.tmp 2) (.tmp 22) rfl (w.heap.size + 1) 0 ((dvC (.slice (some ⟨g, 0, none⟩) zs.length cp) (dgL zs tv) tpr tst ttk) : List Value).toArray rfl rfl (r1.thereO 0 12 (by rw [dvZ_len]; omega)) hID (all_oneCell_toArray (dvC_one _ _ _ _ _ _ _)) ?_
    obtain ⟨Y1, hY1⟩ : ∃ y, y = World.setCells W0 (w.heap.size + 1) 0 (dvC (.slice (some ⟨g, 0, none⟩) zs.length cp) (dgL zs tv) tpr tst ttk) := ⟨_, rfl⟩
    have p1 : Row Y1 (w.heap.size + 1) 33 (dvC (.slice (some ⟨g, 0, none⟩) zs.length cp) (dgL zs tv) tpr tst ttk) := by rw [hY1]; exact r1.setAll rfl
    have p2 : Row Y1 (w.heap.size + 2) 52 tkZ := by rw [hY1]; exact r2.setCellsO (by omega) _ _
    have pG : Row Y1 g 5 (zs.map (Value.int .u8) ++ rest) := by rw [hY1]; exact hG.setCellsO (by have := HGE.out; omega) _ _
    have pB : Below w.heap.size w Y1 := by rw [hY1]; exact below_setCellsD _ 0 _ bWW (by omega)
    have rD1 : Row Y1 g7 33 (dvC (.slice (some ⟨g, 0, none⟩) zs.length cp) (dgL zs tv) tpr tst ttk) := by rw [hY1]; exact rD.setCellsO (by have := HG7.out; omega) _ _
    have rK1 : Row Y1 gT 52 ((tkC ttk (dgL zs tv) CH) ++ rsT) := by rw [hY1]; exact rK.setCellsO (by have := HGT.out; omega) _ _
    have hSY1 : (fun W' : World => Row W' g7 33 (dvC (.slice (some ⟨g, 0, none⟩) zs.length cp) (dgL zs tv) tpr tst ttk) ∧ W'.rangeAt gT 0 (tkC ttk (dgL zs tv) CH)) Y1 := ⟨rD1, kr rK1⟩
    have hXX : World.setCells W0 (w.heap.size + 1) 0 ((dvC (.slice (some ⟨g, 0, none⟩) zs.length cp) (dgL zs tv) tpr tst ttk) : List Value).toArray.toList = Y1 := hY1.symm
    rw [hXX]
    refine hK _ _ ⟨hSY1, ?_⟩
    try simp only [Act.put, List.setIfInBounds_toArray, List.set_cons_zero, List.set_cons_succ]
    clear hY1 hXX hK K hS0
    refine wpAnyH_all (rs := [5]) (by kernel_rfl) (by simp) ?_
    intro i hi; simp only [List.mem_cons, List.not_mem_nil, or_false] at hi
    subst hi
    refine wpOp_step rfl (fun K hK => ?_)
    rw [if_pos (by kernel_rfl)]
    refine wp_store_mid 52 (.tmp 3) (.tmp 25) rfl (w.heap.size + 2) 0 ((tkC ttk (dgL zs tv) CH) : List Value).toArray rfl rfl (p2.thereO 0 10 (by rw [tkZ_len]; omega)) hIK (all_oneCell_toArray (tkC_one _ _ _)) ?_
    obtain ⟨Y2, hY2⟩ : ∃ y, y = World.setCells Y1 (w.heap.size + 2) 0 (tkC ttk (dgL zs tv) CH) := ⟨_, rfl⟩
    have q1 : Row Y2 (w.heap.size + 1) 33 (dvC (.slice (some ⟨g, 0, none⟩) zs.length cp) (dgL zs tv) tpr tst ttk) := by rw [hY2]; exact p1.setCellsO (by omega) _ _
    have q2 : Row Y2 (w.heap.size + 2) 52 (tkC ttk (dgL zs tv) CH) := by rw [hY2]; exact p2.setAll rfl
    have qG : Row Y2 g 5 (zs.map (Value.int .u8) ++ rest) := by rw [hY2]; exact pG.setCellsO (by have := HGE.out; omega) _ _
    have qB : Below w.heap.size w Y2 := by rw [hY2]; exact below_setCellsD _ 0 _ pB (by omega)
    have rD2 : Row Y2 g7 33 (dvC (.slice (some ⟨g, 0, none⟩) zs.length cp) (dgL zs tv) tpr tst ttk) := by rw [hY2]; exact rD1.setCellsO (by have := HG7.out; omega) _ _
    have rK2 : Row Y2 gT 52 ((tkC ttk (dgL zs tv) CH) ++ rsT) := by rw [hY2]; exact rK1.setCellsO (by have := HGT.out; omega) _ _
    have hSY2 : (fun W' : World => Row W' g7 33 (dvC (.slice (some ⟨g, 0, none⟩) zs.length cp) (dgL zs tv) tpr tst ttk) ∧ W'.rangeAt gT 0 (tkC ttk (dgL zs tv) CH)) Y2 := ⟨rD2, kr rK2⟩
    have hXX : World.setCells Y1 (w.heap.size + 2) 0 ((tkC ttk (dgL zs tv) CH) : List Value).toArray.toList = Y2 := hY2.symm
    rw [hXX]
    refine hK _ _ ⟨hSY2, ?_⟩
    try simp only [Act.put, List.setIfInBounds_toArray, List.set_cons_zero, List.set_cons_succ]
    clear hY2 hXX hK K hSY1
    refine wpAnyH_takeD (some 4) (i := 6) (v := ?_) rfl rfl (by kernel_rfl) (by kernel_rfl) (by kernel_rfl) (fun _ _ _ h => h) (.inl ⟨by kernel_rfl, ?_⟩) hSY2 ?_
    rotate_left
    · intro w' hw'; clear hw'; go_simp; try with_reducible rfl
    try simp only [Act.put, List.setIfInBounds_toArray, List.set_cons_zero, List.set_cons_succ]
    refine wpAnyH_done (by kernel_rfl) ?_ _
    go_wp2_with fail
    refine bodyPost_ret (v := .tuple #[.agg (dvC (.slice (some ⟨g, 0, none⟩) zs.length cp) (dgL zs tv) tpr tst ttk).toArray, .agg (tkC ttk (dgL zs tv) CH).toArray, .int .i64 0]) (results_ccs (p := 2) (q := 3) (r := 4) (fn := Tryd.f23) rfl _ _ _ _ _ _ _ _ _ _ _ rfl rfl rfl q1 q2 Tryd.underlying33 rfl hID Tryd.underlying52 rfl hIK) rfl ?_
    exact PrtO.yes (cp := cp) rfl HST.out (by rw [HCH.out]) HZL.out (by have := HGE.out; omega) qG qB
  · have HCC := hid hc
    have dcn : (c != 0) = true := by simpa using hc
    obtain ⟨V2, hV2⟩ : ∃ y, y = w1.alloc (.cells #[.slice none 0 0, .int .u8 0, .int .u8 0, .int .u8 0, .int .u8 0, .int .u8 0, .int .u8 0, .int .u8 0, .int .u8 0, .int .i64 0, .bool false, .int .i64 0] 33) := ⟨_, rfl⟩
    have r7 : Row V2 w1.heap.size 33 dvZ := by rw [hV2]; exact Row.new w1 _ dvZ
    have a2 : Below w1.heap.size w1 V2 := by rw [hV2]; exact (Below.refl _ _).alloc (Nat.le_refl _) _
    have T7 := r7.thereO 0 12 (by rw [dvZ_len]; omega)
    rw [hV2] at T7
    obtain ⟨W3, hW3⟩ : ∃ y, y = V2.setCells w1.heap.size 0 dvZ := ⟨_, rfl⟩
    have r7b : Row W3 w1.heap.size 33 dvZ := by rw [hW3]; exact r7.setAll rfl
    have a3 : Below w1.heap.size w1 W3 := by rw [hW3]; exact below_setCellsD _ 0 _ a2 (Nat.le_refl _)
    have hEQ : World.setCells (w1.alloc (.cells #[.slice none 0 0, .int .u8 0, .int .u8 0, .int .u8 0, .int .u8 0, .int .u8 0, .int .u8 0, .int .u8 0, .int .u8 0, .int .i64 0, .bool false, .int .i64 0] 33)) w1.heap.size 0 dvZ.toArray.toList = W3 := by rw [← hV2]; exact hW3.symm
    have HEQ := hid hEQ
    clear hEQ hW3 hV2 r7 a2
    have rZ := (RZ.out.below hB1 RZ.out.lt).below a3 (Nat.lt_of_lt_of_le RZ.out.lt hB1.size)
    have rT := (RT.out.below hB1 RT.out.lt).below a3 (Nat.lt_of_lt_of_le RT.out.lt hB1.size)
    have hB3 := BV.out.trans (hB1.mono BV.out.size)
    have hB4 := hB3.trans (a3.mono hB3.size)
    have T4 := rZ.thereO 0 12 (by rw [dvZ_len]; omega)
    have T5 : ∀ ys : List Value, (World.setCells W3 (w.heap.size + 1) 0 ys).there (w.heap.size + 2) 0 10 := fun ys => (rT.setCellsO (by omega) ys 0).thereO 0 10 (by rw [tkZ_len]; omega)
    have T5a := T5 dvZ
    have N4 := hid ((rZ.setAll (ys := dvZ) rfl).setCellsO (g := w.heap.size + 2) (by omega) tkZ 0)
    have N5 := hid ((rT.setCellsO (g := w.heap.size + 1) (by omega) dvZ 0).setAll (ys := tkZ) rfl)
    have NB := hid (below_setCellsD (g := w.heap.size + 2) tkZ 0 _ (below_setCellsD (g := w.heap.size + 1) dvZ 0 _ hB4 (by omega)) (by omega))
    clear T5
    clear a3 hB1 r7b hc rZ rT hB3 hB4
    go_upto_region 2 with ((with_reducible refine wpList_store_mid rfl 33 _ _ rfl w1.heap.size 0 dvZ.toArray ?_ ?_ ?_ ?_ dvZ_oneT ?_); rfl; rfl; exact T7; exact hID)
    rw [HEQ.out]
    try simp only [Act.put]
    clear T7 HEQ
    go_wp2_with (first | ((with_reducible refine wpList_store_mid rfl 33 _ _ rfl (w.heap.size + 1) 0 dvZ.toArray ?_ ?_ ?_ ?_ dvZ_oneT ?_); rfl; rfl; exact T4; exact hID) | ((with_reducible refine wpList_store_mid rfl 52 _ _ rfl (w.heap.size + 2) 0 tkZ.toArray ?_ ?_ ?_ ?_ tkZ_oneT ?_); rfl; rfl; exact T5a; exact hIK))
    exact bodyPost_ret (v := .tuple #[.agg dvZ.toArray, .agg tkZ.toArray, .int .i64 c]) (results_ccs (p := 2) (q := 3) (r := 4) (fn := Tryd.f23) rfl _ _ _ _ _ _ _ _ _ _ _ rfl rfl rfl N4.out N5.out Tryd.underlying33 rfl hID Tryd.underlying52 rfl hIK) rfl (PrtO.no HCC.out rfl NB.out)
set_option maxRecDepth 100000 in
set_option maxHeartbeats 1500000 in
theorem implPrintTicket_any (B n cap : Nat) (zs ds : List Int) (v pr : Int) (st : Bool) (tk : Int) (w : World) (hS : Stk w B zs) (hn : n = zs.length) (hd8 : ds.length = 8) (ho : Oct (dg ds 0) (dg ds 1) (dg ds 2) (dg ds 3) (dg ds 4) (dg ds 5) (dg ds 6) (dg ds 7)) (hvv : okDev zs ds pr st tk = true → ds = dgL zs v ∧ okS (szL zs) (v, pr, st, tk)) (a0 a1 a2 a3 : Addr) (hSN : SN w a0 a1 a2 a3) :
    Calls Tryd.prog 24 #[.agg (dvC (.slice (some ⟨B, 0, none⟩) n cap) ds pr st tk).toArray] w (PrtO zs (v, pr, st, tk) [((5 : Int), (0 : Int))] 1 (rcode zs ds v pr st tk [((5 : Int), (0 : Int))] 1) w) := by
  have hID : (Tryd.prog.info? 33).map (·.size) = some 12 := Tryd.infoDev
  have hIK : (Tryd.prog.info? 52).map (·.size) = some 10 := by kernel_rfl
  obtain ⟨V, hV⟩ : ∃ y, y = (((w.alloc (.cells (dvC (.slice (some ⟨B, 0, none⟩) n cap) ds pr st tk).toArray 33)).alloc (.cells #[.slice none 0 0, .int .u8 0, .int .u8 0, .int .u8 0, .int .u8 0, .int .u8 0, .int .u8 0, .int .u8 0, .int .u8 0, .int .i64 0, .bool false, .int .i64 0] 33)).alloc (.cells #[.int .i64 0, .int .u8 0, .int .u8 0, .int .u8 0, .int .u8 0, .int .u8 0, .int .u8 0, .int .u8 0, .int .u8 0, .int .u16 0] 52)) := ⟨_, rfl⟩
  have bV : Below w.heap.size w V := by rw [hV]; exact (((Below.refl _ _).alloc (Nat.le_refl _) _).alloc (by simp) _).alloc (by simp; omega) _
  have rP : Row V w.heap.size 33 (dvC (.slice (some ⟨B, 0, none⟩) n cap) ds pr st tk) := by rw [hV]; exact ((Row.new w _ _).alloc _).alloc _
  have rZ : Row V (w.heap.size + 1) 33 dvZ := by
    have h := (Row.new (w.alloc (.cells (dvC (.slice (some ⟨B, 0, none⟩) n cap) ds pr st tk).toArray 33)) 33 dvZ).alloc (.cells #[.int .i64 0, .int .u8 0, .int .u8 0, .int .u8 0, .int .u8 0, .int .u8 0, .int .u8 0, .int .u8 0, .int .u8 0, .int .u16 0] 52)
    simp only [World.size_alloc] at h
    rw [hV]; exact h
  have rT : Row V (w.heap.size + 2) 52 tkZ := by
    have h := Row.new ((w.alloc (.cells (dvC (.slice (some ⟨B, 0, none⟩) n cap) ds pr st tk).toArray 33)).alloc (.cells #[.slice none 0 0, .int .u8 0, .int .u8 0, .int .u8 0, .int .u8 0, .int .u8 0, .int .u8 0, .int .u8 0, .int .u8 0, .int .i64 0, .bool false, .int .i64 0] 33)) 52 tkZ
    simp only [World.size_alloc] at h
    rw [hV]; exact h
  have sV : V.heap.size = w.heap.size + 3 := by rw [hV]; simp
  obtain ⟨V1, hV1⟩ : ∃ y, y = V.alloc (.cells #[.int .i8 5, .int .i64 0] 37) := ⟨_, rfl⟩
  have aV1 : Below V.heap.size V V1 := by rw [hV1]; exact (Below.refl _ _).alloc (Nat.le_refl _) _
  have rA : Row V1 (w.heap.size + 3) 37 [.int .i8 5, .int .i64 0] := by
    have h := Row.new V 37 [.int .i8 5, .int .i64 0]
    rw [sV] at h
    rw [hV1]; exact h
  have sA : Ast V1 (w.heap.size + 3) [((5 : Int), (0 : Int))] := ⟨rA.lt, fun j hj => by
    have hj0 : j = 0 := by simp at hj; omega
    subst hj0
    exact ⟨rA.cell 0, rA.cell 1⟩, by simp⟩
  have bV1 := bV.trans (aV1.mono bV.size)
  have hIR : (Tryd.prog.info? 89).map (·.size) = some 14 := Tryd.infoRep
  have hIG : (Tryd.prog.info? 31).map (·.size) = some 8 := Tryd.infoDigs
  have HR := hid (replay_any B n cap zs ds v pr st tk (w.heap.size + 3) 1 1 [((5 : Int), (0 : Int))] V1 (hS.below bV1 hS.1) hn hS.2.2.1 hd8 ho hvv sA rfl a0 a1 a2 a3 (hSN.below bV1 trivial))
  have HZL := hid (show zs.length ≤ 1099511627776 by have := hS.2.2.2; omega)
  have HCO := hid (rcode_code zs ds v pr st tk [((5 : Int), (0 : Int))] 1)
  have hFX : (rcode zs ds v pr st tk [((5 : Int), (0 : Int))] 1) = 0 → okL zs = true ∧ -9223372036854775808 ≤ (stF (szL zs) (v, pr, st, tk) [((5 : Int), (0 : Int))] 1).2.2.2 ∧ (stF (szL zs) (v, pr, st, tk) [((5 : Int), (0 : Int))] 1).2.2.2 ≤ 9223372036854775807 := fun hc => by
    rw [rcode] at hc
    split at hc
    · exact absurd hc (by decide)
    · next hv =>
      split at hc
      · exact absurd hc (by decide)
      · next hb =>
        have hv' : okDev zs ds pr st tk = true := by simpa using hv
        have hb' : okAs [((5 : Int), (0 : Int))] = true := by simpa using hb
        have hl := okDev_okL hv'
        have h := stF_ok (okL_out hl).2.2.2.1 (hvv hv').2 (okAs_out hb') 1 (by simp)
        have h4 := h.2.2.2
        exact ⟨hl, by omega, by omega⟩
  obtain ⟨c, hc⟩ : ∃ y, (rcode zs ds v pr st tk [((5 : Int), (0 : Int))] 1) = y := ⟨_, rfl⟩
  rw [hc] at HR HCO hFX ⊢
  have HFX := hid hFX
  have HSN := hid hSN
  have RPV := hid rP
  have HV := hid hV; have HV1 := hid hV1; have BV := hid bV1; have RZ := hid (rZ.below aV1 rZ.lt); have RT := hid (rT.below aV1 rT.lt); have HSV := hid (show V1.heap.size = w.heap.size + 4 by rw [hV1]; simp; omega); have HSV0 := hid sV
  clear hV hV1 bV bV1 rP rZ rT sV aV1 rA sA hS hn hd8 ho hvv hc hFX hSN
  go_enter Tryd.func24, Tryd.ntmps24
  go_wp2_with ((with_reducible refine wpList_load_row rfl 33 _ rfl w.heap.size ?_ 33 (dvC (.slice (some ⟨B, 0, none⟩) n cap) ds pr st tk).toArray (0, 0) _ ?_ Tryd.underlying33 ?_ ?_ ?_); rfl; (rw [← HV.out]; exact RPV.out); rfl; exact hID)
  rw [← HV.out]
  try rw [HSV0.out]
  rw [← HV1.out]
  refine HR.out.mono ?_
  rintro e w1 ⟨dv, nv, l, rfl, hd12, hone, hnv, hXX, hB1⟩
  rcases hXX with ⟨hc, g, cp, rest, base, rfl, rfl, hG, hg, hgb, hbs, oN⟩ | ⟨hc, rfl, rfl, rfl⟩
  · subst hc
    rw [show errV 0 a0 a1 a2 a3 = .nilIface from rfl]
    obtain ⟨hOL, hT1, hT2⟩ := HFX.out rfl
    obtain ⟨⟨tv, tpr, tst, ttk⟩, hST⟩ : ∃ T : DS, (stF (szL zs) (v, pr, st, tk) [((5 : Int), (0 : Int))] 1) = T := ⟨_, rfl⟩
    obtain ⟨l, hll⟩ : ∃ y, suF (szL zs) (v, pr, st, tk) [((5 : Int), (0 : Int))] 1 = y := ⟨_, rfl⟩
    rw [hST] at hT1 hT2 hone ⊢
    rw [hll]
    simp only at hT1 hT2
    have HOL := hid hOL
    have HTB := hid (show -9223372036854775808 ≤ ttk ∧ ttk ≤ 9223372036854775807 from ⟨hT1, hT2⟩)
    obtain ⟨CH, hCH⟩ : ∃ y, chk ttk (dgL zs tv) = y := ⟨_, rfl⟩
    have HCH := hid hCH
    obtain ⟨V2, hV2⟩ : ∃ y, y = w1.alloc (.cells #[.slice none 0 0, .int .u8 0, .int .u8 0, .int .u8 0, .int .u8 0, .int .u8 0, .int .u8 0, .int .u8 0, .int .u8 0, .int .i64 0, .bool false, .int .i64 0, .slice none 0 0, .int .i64 0] 89) := ⟨_, rfl⟩
    have r7 : Row V2 w1.heap.size 89 rpZ := by rw [hV2]; exact Row.new w1 _ _
    have a2 : Below w1.heap.size w1 V2 := by rw [hV2]; exact (Below.refl _ _).alloc (Nat.le_refl _) _
    have T7 := r7.thereO 0 14 (by rw [rpZ_len]; omega)
    rw [hV2] at T7
    obtain ⟨W3, hW3⟩ : ∃ y, y = V2.setCells w1.heap.size 0 (rpC (dvC (.slice (some ⟨g, 0, none⟩) zs.length cp) (dgL zs tv) tpr tst ttk) nv l) := ⟨_, rfl⟩
    have r7b : Row W3 w1.heap.size 89 (rpC (dvC (.slice (some ⟨g, 0, none⟩) zs.length cp) (dgL zs tv) tpr tst ttk) nv l) := by rw [hW3]; exact r7.setAll rfl
    have a3 : Below w1.heap.size w1 W3 := by rw [hW3]; exact below_setCellsD _ 0 _ a2 (Nat.le_refl _)
    have hEQ : World.setCells (w1.alloc (.cells #[.slice none 0 0, .int .u8 0, .int .u8 0, .int .u8 0, .int .u8 0, .int .u8 0, .int .u8 0, .int .u8 0, .int .u8 0, .int .i64 0, .bool false, .int .i64 0, .slice none 0 0, .int .i64 0] 89)) w1.heap.size 0 (rpC (dvC (.slice (some ⟨g, 0, none⟩) zs.length cp) (dgL zs tv) tpr tst ttk) nv l).toArray.toList = W3 := by rw [← hV2]; exact hW3.symm
    have HEQ := hid hEQ
    have HON := hid (show (rpC (dvC (.slice (some ⟨g, 0, none⟩) zs.length cp) (dgL zs tv) tpr tst ttk) nv l).toArray.all (·.oneCell') = true from all_oneCell_toArray (rpC_ones hone hnv))
    clear hEQ hW3 hV2 r7 a2
    have RZ3 := hid ((RZ.out.below hB1 RZ.out.lt).below a3 (Nat.lt_of_lt_of_le RZ.out.lt hB1.size))
    have RT3 := hid ((RT.out.below hB1 RT.out.lt).below a3 (Nat.lt_of_lt_of_le RT.out.lt hB1.size))
    have RG3 := hid (hG.below a3 hG.lt)
    have hB3 := BV.out.trans (hB1.mono BV.out.size)
    have B4 := hid (hB3.trans (a3.mono hB3.size))
    have hsv := HSV.out
    have HST := hid hST
    have HGE := hid (show w.heap.size + 4 ≤ g by omega)
    have HG7' := hid (show w.heap.size + 4 ≤ w1.heap.size by have := hB1.size; omega)
    obtain ⟨g7, hg7⟩ : ∃ y, y = w1.heap.size := ⟨_, rfl⟩
    have R7' := hid r7b
    clear a3 hG oN hB1 hg hgb hbs r7b hST hCH hB3 hsv hone hnv hd12 hll hT1 hT2 hOL
    go_upto_region 2 with ((with_reducible refine wpList_store_mid rfl 89 _ _ rfl w1.heap.size 0 (rpC (dvC (.slice (some ⟨g, 0, none⟩) zs.length cp) (dgL zs tv) tpr tst ttk) nv l).toArray ?_ ?_ ?_ ?_ HON.out ?_); rfl; rfl; exact T7; exact hIR)
    rw [HEQ.out]
    try simp only [Act.put]
    have r7c := R7'.out; have hg7c := HG7'.out
    rw [← hg7] at r7c hg7c ⊢
    have R7 := hid r7c; have HG7 := hid hg7c
    clear T7 HEQ hg7 R7' r7c HG7' hg7c
    go_upto_region 4 with fail
    refine wp_region_held (S := fun W' : World => Row W' g7 89 (rpC (dvC (.slice (some ⟨g, 0, none⟩) zs.length cp) (dgL zs tv) tpr tst ttk) nv l)) (by kernel_rfl) ?_
    change wpAnyH _ _ _ _ _ _ _ _ (World.drew _)
    obtain ⟨W0, hW0⟩ : ∃ X, X = World.drew W3 := ⟨_, rfl⟩
    have hD0 : Below W3.heap.size W3 W0 := by rw [hW0]; exact (Below.refl _ _).drew
    have rD := R7.out.below hD0 R7.out.lt; have rZ := RZ3.out.below hD0 RZ3.out.lt; have rT := RT3.out.below hD0 RT3.out.lt; have hG := RG3.out.below hD0 RG3.out.lt
    have bWW := B4.out.trans (hD0.mono B4.out.size)
    rw [← hW0]
    clear hW0 hD0
    have hS0 : (fun W' : World => Row W' g7 89 (rpC (dvC (.slice (some ⟨g, 0, none⟩) zs.length cp) (dgL zs tv) tpr tst ttk) nv l)) W0 := rD
    refine wpAnyH_takeD (some 20) (i := 0) (v := ?_) rfl rfl (by kernel_rfl) (by kernel_rfl) (by kernel_rfl) (fun _ _ _ h => h) (.inl ⟨by kernel_rfl, ?_⟩) hS0 ?_
    rotate_left
    · intro w' hw'; clear hw'; go_simp; try with_reducible rfl
    try simp only [Act.put, List.setIfInBounds_toArray, List.set_cons_zero, List.set_cons_succ]
    refine wpAnyH_takeD (some 21) (i := 1) (v := .agg (dvC (.slice (some ⟨g, 0, none⟩) zs.length cp) (dgL zs tv) tpr tst ttk).toArray) rfl rfl (by kernel_rfl) (by kernel_rfl) (by kernel_rfl) (fun _ _ _ h => h) (.inl ⟨by kernel_rfl, ?_⟩) hS0 ?_
    · intro w' hw'; exact exec_load_mid 33 _ rfl g7 0 rfl (dvC (.slice (some ⟨g, 0, none⟩) zs.length cp) (dgL zs tv) tpr tst ttk) _ (rpC_range hw') Tryd.underlying33 rfl hID
    try simp only [Act.put, List.setIfInBounds_toArray, List.set_cons_zero, List.set_cons_succ]
    refine wpAnyH_takeD (some 22) (i := 2) (v := ?_) rfl rfl (by kernel_rfl) (by kernel_rfl) (by kernel_rfl) (fun _ _ _ h => h) (.inl ⟨by kernel_rfl, ?_⟩) hS0 ?_
    rotate_left
    · intro w' hw'; clear hw'; go_simp; try with_reducible rfl
    try simp only [Act.put, List.setIfInBounds_toArray, List.set_cons_zero, List.set_cons_succ]
    refine wpAnyH_takeD (some 23) (i := 3) (v := ?_) rfl rfl (by kernel_rfl) (by kernel_rfl) (by kernel_rfl) (fun _ _ _ h => h) (.inl ⟨by kernel_rfl, ?_⟩) hS0 ?_
    rotate_left
    · intro w' hw'; clear hw'; go_simp; try with_reducible rfl
    try simp only [Act.put, List.setIfInBounds_toArray, List.set_cons_zero, List.set_cons_succ]
    refine wpAnyH_takeD (some 24) (i := 4) (v := ?_) rfl rfl (by kernel_rfl) (by kernel_rfl) (by kernel_rfl) (fun _ _ _ h => h) (.inl ⟨by kernel_rfl, ?_⟩) hS0 ?_
    rotate_left
    · intro w' hw'; have y5 : w'.cell? ⟨g7, 11, none⟩ = some (.int .i64 ttk) := hw'.cell 11; clear hw'; go_simp; try with_reducible rfl
    try simp only [Act.put, List.setIfInBounds_toArray, List.set_cons_zero, List.set_cons_succ]
    refine wpAnyH_takeD (some 25) (i := 5) (v := ?_) rfl rfl (by kernel_rfl) (by kernel_rfl) (by kernel_rfl) (fun _ _ _ h => h) (.inl ⟨by kernel_rfl, ?_⟩) hS0 ?_
    rotate_left
    · intro w' hw'; clear hw'; go_simp; try with_reducible rfl
    try simp only [Act.put, List.setIfInBounds_toArray, List.set_cons_zero, List.set_cons_succ]
    refine wpAnyH_takeD (some 26) (i := 6) (v := ?_) rfl rfl (by kernel_rfl) (by kernel_rfl) (by kernel_rfl) (fun _ _ _ h => h) (.inl ⟨by kernel_rfl, ?_⟩) hS0 ?_
    rotate_left
    · intro w' hw'; clear hw'; go_simp; try with_reducible rfl
    try simp only [Act.put, List.setIfInBounds_toArray, List.set_cons_zero, List.set_cons_succ]
    refine wpAnyH_takeD (some 27) (i := 7) (v := .agg (diC (dgL zs tv)).toArray) rfl rfl (by kernel_rfl) (by kernel_rfl) (by kernel_rfl) (fun _ _ _ h => h) (.inl ⟨by kernel_rfl, ?_⟩) hS0 ?_
    · intro w' hw'; exact exec_load_mid 31 _ rfl g7 1 rfl (diC (dgL zs tv)) _ (dvC_range0 hw') Tryd.underlying31 rfl hIG
    try simp only [Act.put, List.setIfInBounds_toArray, List.set_cons_zero, List.set_cons_succ]
    refine wpAnyH_all (rs := [8]) (by kernel_rfl) (by simp) ?_
    intro i hi; simp only [List.mem_cons, List.not_mem_nil, or_false] at hi
    subst hi
    refine wpOp_step rfl (fun K hK => ?_)
    go_simp
    with_reducible refine (ticketOf_dg zs ttk tv HOL.out W0 HTB.out).mono ?_
    rintro e W9 ⟨rfl, hB9⟩
    rw [HCH.out]
    have rD9 := rD.below hB9 rD.lt
    replace rZ := rZ.below hB9 rZ.lt; replace rT := rT.below hB9 rT.lt; replace hG := hG.below hB9 hG.lt
    replace bWW := bWW.trans (hB9.mono bWW.size)
    have hS9 : (fun W' : World => Row W' g7 89 (rpC (dvC (.slice (some ⟨g, 0, none⟩) zs.length cp) (dgL zs tv) tpr tst ttk) nv l)) W9 := rD9
    refine hK _ _ ⟨hS9, ?_⟩
    try simp only [Act.put, List.setIfInBounds_toArray, List.set_cons_zero, List.set_cons_succ]
    clear hB9 hK K hS0
    have r1 := rZ; have r2 := rT
    refine wpAnyH_all (rs := [9]) (by kernel_rfl) (by simp) ?_
    intro i hi; simp only [List.mem_cons, List.not_mem_nil, or_false] at hi
    subst hi
    refine wpOp_step rfl (fun K hK => ?_)
    rw [if_pos (by kernel_rfl)]
    refine wp_store_mid 33 (.tmp 2) (.tmp 21) rfl (w.heap.size + 1) 0 ((dvC (.slice (some ⟨g, 0, none⟩) zs.length cp) (dgL zs tv) tpr tst ttk) : List Value).toArray rfl rfl (r1.thereO 0 12 (by rw [dvZ_len]; omega)) hID (all_oneCell_toArray (dvC_one _ _ _ _ _ _ _)) ?_
    obtain ⟨Y1, hY1⟩ : ∃ y, y = World.setCells W9 (w.heap.size + 1) 0 (dvC (.slice (some ⟨g, 0, none⟩) zs.length cp) (dgL zs tv) tpr tst ttk) := ⟨_, rfl⟩
    have p1 : Row Y1 (w.heap.size + 1) 33 (dvC (.slice (some ⟨g, 0, none⟩) zs.length cp) (dgL zs tv) tpr tst ttk) := by rw [hY1]; exact r1.setAll rfl
    have p2 : Row Y1 (w.heap.size + 2) 52 tkZ := by rw [hY1]; exact r2.setCellsO (by omega) _ _
    have pG : Row Y1 g 5 (zs.map (Value.int .u8) ++ rest) := by rw [hY1]; exact hG.setCellsO (by have := HGE.out; omega) _ _
    have pB : Below w.heap.size w Y1 := by rw [hY1]; exact below_setCellsD _ 0 _ bWW (by omega)
    have rD1 : Row Y1 g7 89 (rpC (dvC (.slice (some ⟨g, 0, none⟩) zs.length cp) (dgL zs tv) tpr tst ttk) nv l) := by rw [hY1]; exact rD9.setCellsO (by have := HG7.out; omega) _ _
    have hSY1 : (fun W' : World => Row W' g7 89 (rpC (dvC (.slice (some ⟨g, 0, none⟩) zs.length cp) (dgL zs tv) tpr tst ttk) nv l)) Y1 := rD1
    have hXX : World.setCells W9 (w.heap.size + 1) 0 ((dvC (.slice (some ⟨g, 0, none⟩) zs.length cp) (dgL zs tv) tpr tst ttk) : List Value).toArray.toList = Y1 := hY1.symm
    rw [hXX]
    refine hK _ _ ⟨hSY1, ?_⟩
    try simp only [Act.put, List.setIfInBounds_toArray, List.set_cons_zero, List.set_cons_succ]
    clear hY1 hXX hK K hS9
    refine wpAnyH_all (rs := [10]) (by kernel_rfl) (by simp) ?_
    intro i hi; simp only [List.mem_cons, List.not_mem_nil, or_false] at hi
    subst hi
    refine wpOp_step rfl (fun K hK => ?_)
    rw [if_pos (by kernel_rfl)]
    refine wp_store_mid 52 (.tmp 3) (.tmp 28) rfl (w.heap.size + 2) 0 ((tkC ttk (dgL zs tv) CH) : List Value).toArray rfl rfl (p2.thereO 0 10 (by rw [tkZ_len]; omega)) hIK (all_oneCell_toArray (tkC_one _ _ _)) ?_
    obtain ⟨Y2, hY2⟩ : ∃ y, y = World.setCells Y1 (w.heap.size + 2) 0 (tkC ttk (dgL zs tv) CH) := ⟨_, rfl⟩
    have q1 : Row Y2 (w.heap.size + 1) 33 (dvC (.slice (some ⟨g, 0, none⟩) zs.length cp) (dgL zs tv) tpr tst ttk) := by rw [hY2]; exact p1.setCellsO (by omega) _ _
    have q2 : Row Y2 (w.heap.size + 2) 52 (tkC ttk (dgL zs tv) CH) := by rw [hY2]; exact p2.setAll rfl
    have qG : Row Y2 g 5 (zs.map (Value.int .u8) ++ rest) := by rw [hY2]; exact pG.setCellsO (by have := HGE.out; omega) _ _
    have qB : Below w.heap.size w Y2 := by rw [hY2]; exact below_setCellsD _ 0 _ pB (by omega)
    have rD2 : Row Y2 g7 89 (rpC (dvC (.slice (some ⟨g, 0, none⟩) zs.length cp) (dgL zs tv) tpr tst ttk) nv l) := by rw [hY2]; exact rD1.setCellsO (by have := HG7.out; omega) _ _
    have hSY2 : (fun W' : World => Row W' g7 89 (rpC (dvC (.slice (some ⟨g, 0, none⟩) zs.length cp) (dgL zs tv) tpr tst ttk) nv l)) Y2 := rD2
    have hXX : World.setCells Y1 (w.heap.size + 2) 0 ((tkC ttk (dgL zs tv) CH) : List Value).toArray.toList = Y2 := hY2.symm
    rw [hXX]
    refine hK _ _ ⟨hSY2, ?_⟩
    try simp only [Act.put, List.setIfInBounds_toArray, List.set_cons_zero, List.set_cons_succ]
    clear hY2 hXX hK K hSY1
    refine wpAnyH_takeD (some 4) (i := 11) (v := ?_) rfl rfl (by kernel_rfl) (by kernel_rfl) (by kernel_rfl) (fun _ _ _ h => h) (.inl ⟨by kernel_rfl, ?_⟩) hSY2 ?_
    rotate_left
    · intro w' hw'; clear hw'; go_simp; try with_reducible rfl
    try simp only [Act.put, List.setIfInBounds_toArray, List.set_cons_zero, List.set_cons_succ]
    refine wpAnyH_done (by kernel_rfl) ?_ _
    go_wp2_with fail
    refine bodyPost_ret (v := .tuple #[.agg (dvC (.slice (some ⟨g, 0, none⟩) zs.length cp) (dgL zs tv) tpr tst ttk).toArray, .agg (tkC ttk (dgL zs tv) CH).toArray, .int .i64 0]) (results_ccs (p := 2) (q := 3) (r := 4) (fn := Tryd.f24) rfl _ _ _ _ _ _ _ _ _ _ _ rfl rfl rfl q1 q2 Tryd.underlying33 rfl hID Tryd.underlying52 rfl hIK) rfl ?_
    exact PrtO.yes (cp := cp) rfl HST.out (by rw [HCH.out]) HZL.out (by have := HGE.out; omega) qG qB
  · have HCC := hid hc
    obtain ⟨ea, hea⟩ := errV_ne a0 a1 a2 a3 hc
    have HCB := hid (fun W (h : SN W a0 a1 a2 a3) => codeBehind_any c HCO.out a0 a1 a2 a3 W h)
    rw [hea] at HCB ⊢
    clear hea
    obtain ⟨V2, hV2⟩ : ∃ y, y = w1.alloc (.cells #[.slice none 0 0, .int .u8 0, .int .u8 0, .int .u8 0, .int .u8 0, .int .u8 0, .int .u8 0, .int .u8 0, .int .u8 0, .int .i64 0, .bool false, .int .i64 0, .slice none 0 0, .int .i64 0] 89) := ⟨_, rfl⟩
    have r7 : Row V2 w1.heap.size 89 rpZ := by rw [hV2]; exact Row.new w1 _ _
    have a2 : Below w1.heap.size w1 V2 := by rw [hV2]; exact (Below.refl _ _).alloc (Nat.le_refl _) _
    have T7 := r7.thereO 0 14 (by rw [rpZ_len]; omega)
    rw [hV2] at T7
    obtain ⟨W3, hW3⟩ : ∃ y, y = V2.setCells w1.heap.size 0 (rpC dvZ (.slice none 0 0) 0) := ⟨_, rfl⟩
    have r7b : Row W3 w1.heap.size 89 (rpC dvZ (.slice none 0 0) 0) := by rw [hW3]; exact r7.setAll rfl
    have a3 : Below w1.heap.size w1 W3 := by rw [hW3]; exact below_setCellsD _ 0 _ a2 (Nat.le_refl _)
    have hEQ : World.setCells (w1.alloc (.cells #[.slice none 0 0, .int .u8 0, .int .u8 0, .int .u8 0, .int .u8 0, .int .u8 0, .int .u8 0, .int .u8 0, .int .u8 0, .int .i64 0, .bool false, .int .i64 0, .slice none 0 0, .int .i64 0] 89)) w1.heap.size 0 (rpC dvZ (.slice none 0 0) 0).toArray.toList = W3 := by rw [← hV2]; exact hW3.symm
    have HEQ := hid hEQ
    have HON := hid (show (rpC dvZ (.slice none 0 0) 0).toArray.all (·.oneCell') = true from all_oneCell_toArray (rpC_ones hone hnv))
    clear hEQ hW3 hV2 r7 a2
    have rZ := (RZ.out.below hB1 RZ.out.lt).below a3 (Nat.lt_of_lt_of_le RZ.out.lt hB1.size)
    have rT := (RT.out.below hB1 RT.out.lt).below a3 (Nat.lt_of_lt_of_le RT.out.lt hB1.size)
    have hB3 := BV.out.trans (hB1.mono BV.out.size)
    have hB4 := hB3.trans (a3.mono hB3.size)
    have T4 := rZ.thereO 0 12 (by rw [dvZ_len]; omega)
    have T5 : ∀ ys : List Value, (World.setCells W3 (w.heap.size + 1) 0 ys).there (w.heap.size + 2) 0 10 := fun ys => (rT.setCellsO (by omega) ys 0).thereO 0 10 (by rw [tkZ_len]; omega)
    have T5a := T5 dvZ
    have N4 := hid ((rZ.setAll (ys := dvZ) rfl).setCellsO (g := w.heap.size + 2) (by omega) tkZ 0)
    have N5 := hid ((rT.setCellsO (g := w.heap.size + 1) (by omega) dvZ 0).setAll (ys := tkZ) rfl)
    have NB := hid (below_setCellsD (g := w.heap.size + 2) tkZ 0 _ (below_setCellsD (g := w.heap.size + 1) dvZ 0 _ hB4 (by omega)) (by omega))
    clear T5
    have HB4 := hid hB4
    clear a3 hB1 r7b hc rZ rT hB3 hB4 hone hnv hd12
    go_upto_region 2 with ((with_reducible refine wpList_store_mid rfl 89 _ _ rfl w1.heap.size 0 (rpC dvZ (.slice none 0 0) 0).toArray ?_ ?_ ?_ ?_ HON.out ?_); rfl; rfl; exact T7; exact hIR)
    rw [HEQ.out]
    try simp only [Act.put]
    clear T7 HEQ
    go_wp2_with fail
    with_reducible refine (HCB.out W3 (HSN.out.below HB4.out trivial)).mono ?_
    rintro e w9 ⟨rfl, h9⟩
    subst h9
    go_wp2_with (first | ((with_reducible refine wpList_store_mid rfl 33 _ _ rfl (w.heap.size + 1) 0 dvZ.toArray ?_ ?_ ?_ ?_ dvZ_oneT ?_); rfl; rfl; exact T4; exact hID) | ((with_reducible refine wpList_store_mid rfl 52 _ _ rfl (w.heap.size + 2) 0 tkZ.toArray ?_ ?_ ?_ ?_ tkZ_oneT ?_); rfl; rfl; exact T5a; exact hIK))
    exact bodyPost_ret (v := .tuple #[.agg dvZ.toArray, .agg tkZ.toArray, .int .i64 c]) (results_ccs (p := 2) (q := 3) (r := 4) (fn := Tryd.f24) rfl _ _ _ _ _ _ _ _ _ _ _ rfl rfl rfl N4.out N5.out Tryd.underlying33 rfl hID Tryd.underlying52 rfl hIK) rfl (PrtO.no HCC.out rfl NB.out)
end Go.Proofs.YthifegbmpmialaaDoor
