/- A stack that is drawn, and a value of it. -/
import Derived.Test.YtfifnngdmhdkiaaGreatDoorSrcP
import Derived.Test.YtfifnngdmhdkiaaGreatDoorMgP
import Derived.OwnWalk
namespace Go.Proofs.YtfifnngdmhdkiaaGreatDoor
open Go.RowKit
set_option linter.unusedVariables false
set_option linter.unusedSimpArgs false
theorem SrcAt.below {w w' : World} {g i n : Nat} {zs : List Int} (h : SrcAt w g i zs) (hb : Below n w w') (hn : g < n) : SrcAt w' g i zs := by
  obtain ⟨a, len, cap, s, hR, hI, hl, hg⟩ := h
  refine ⟨a, len, cap, s, hR.below hb hn, ⟨hI.1, hI.2.1, ?_⟩, hl, hg⟩
  rcases hg with h0 | ⟨b, off, rfl, hbg⟩
  · exact .inl h0
  · rcases hI.2.2 with h0 | ⟨b', off', e, hb', hc⟩
    · exact .inl h0
    · injection e with e; injection e with e1 e2
      subst e1; subst e2
      exact .inr ⟨b, off, rfl, Nat.lt_of_lt_of_le hb' hb.size, fun j hj => (hb.cell (p := ⟨b, off + j, none⟩) (by show b < n; omega)).trans (hc j hj)⟩
theorem owns_only {w w' : World} {base g size n : Nat} {e : TypeId} {v : Value} {xs : List Value} (h : w.ownsRow base e size v n xs) (o : OnlyB g w w') (hg : g < base) : w'.ownsRow base e size v n xs := by
  obtain ⟨h1, h2 | ⟨q, cap, cur, h2, h3, h4, r⟩⟩ := h
  · exact ⟨h1, .inl h2⟩
  · exact ⟨h1, .inr ⟨q, cap, cur, h2, h3, (o.2.1 q (by omega)).trans h4, r⟩⟩
theorem owns_addr {w : World} {base size n : Nat} {e : TypeId} {v : Value} {xs : List Value} (h : w.ownsRow base e size v n xs) (hn : 1 ≤ n) : ∃ g cp, v = .slice (some ⟨g, 0, none⟩) n cp ∧ base ≤ g ∧ n ≤ cp := by
  obtain ⟨h1, ⟨_, h2⟩ | ⟨q, cap, cur, h2, h3, h4, h5, r⟩⟩ := h
  · omega
  · exact ⟨q, cap, h2, h3, h5⟩
theorem one_anyD (g i : Nat) (zs : List Int) (n : Int) (w : World) (h : SrcAt w g i zs) (hi : i ≤ 900000) (hn : n ≤ 4611686018427387904) :
    Calls Tryz.prog 28 #[.pointer (some ⟨g, 0, none⟩), .int .i64 n] w fun e w' => ∃ (b : Bool) (j : Nat), e = .returned (.bool b) ∧ i ≤ j ∧ j ≤ i + 2 ∧ SrcAt w' g j zs ∧ OnlyB g w w' := by
  have HP := hid (pick_any g i zs n w h hi hn)
  clear h hi hn
  go_enter Tryz.func28, Tryz.ntmps28
  go_wp2_with fail
  with_reducible refine HP.out.mono ?_
  rintro e w1 ⟨x, j, x0, x1, rfl, hj, hj2, hS, hO⟩
  have HS := hid hS; have HO := hid hO; have HJ := hid (And.intro hj hj2)
  clear hS hO hj hj2 x1
  by_cases hx : x = 0
  · have h1 : (x == 0) = true := by simpa using hx
    go_wp2_with fail
    go_ret
    exact ⟨true, j, by first | rfl | simp_all, HJ.out.1, HJ.out.2, HS.out, HO.out⟩
  · have h1 : (x == 0) = false := by simpa using hx
    go_wp2_with fail
    go_ret
    exact ⟨false, j, by first | rfl | simp_all, HJ.out.1, HJ.out.2, HS.out, HO.out⟩
/-- one of some numbers -/
theorem among_any (g i : Nat) (zs : List Int) (gl n cp : Nat) (ms : List Int) (w : World) (h : SrcAt w g i zs) (hi : i ≤ 900000) (hR : Row w gl 2 (ms.map (Value.int .i64))) (hg : gl ≠ g) (hn : n = ms.length) (h1 : 1 ≤ n) (h2 : n ≤ 100) :
    Calls Tryz.prog 50 #[.pointer (some ⟨g, 0, none⟩), .slice (some ⟨gl, 0, none⟩) n cp] w fun e w' => ∃ (x : Int) (j : Nat), x ∈ ms ∧ e = .returned (.int .i64 x) ∧ i ≤ j ∧ j ≤ i + 2 ∧ SrcAt w' g j zs ∧ OnlyB g w w' := by
  have HP := hid (pick_any g i zs (n : Int) w h hi (by omega))
  have HR := hid hR; have HN := hid hn
  clear h hi hR hn
  go_enter Tryz.func50, Tryz.ntmps50
  go_wp2_with fail
  with_reducible refine HP.out.mono ?_
  rintro e w1 ⟨x, j, x0, x1, rfl, hj, hj2, hS, hO⟩
  obtain ⟨k, rfl⟩ : ∃ k : Nat, x = k := ⟨x.toNat, by omega⟩
  have hk : k < ms.length := by have := HN.out; omega
  have hkn : (k : Int) < (n : Int) := by have := HN.out; omega
  have hk0 : (0 : Int) ≤ (k : Int) := by omega
  have c := (hO.row HR.out hg).cell k
  rw [List.getElem?_map, List.getElem?_eq_getElem hk] at c
  have hm : ms[k] ∈ ms := List.getElem_mem hk
  obtain ⟨y, hy⟩ : ∃ y, ms[k] = y := ⟨_, rfl⟩
  simp only [hy, Option.map_some] at c
  rw [hy] at hm
  have HS := hid hS; have HO := hid hO; have HJ := hid (And.intro hj hj2); have HM := hid hm
  clear hS hO hj hj2 x1 hk hm hy
  go_wp2_with fail
  go_ret
  exact ⟨y, j, HM.out, rfl, HJ.out.1, HJ.out.2, HS.out, HO.out⟩
/-- the bases that are drawn -/
def bsL : List Int := [10, 10, 10, 60, 24, 2, 3, 12, 100]
def bsB (ms : List Int) : Prop := ∀ z ∈ ms, z ∈ bsL
/-- a stack that is drawn of a source that lies at S -/
def DrS (S : Nat) (zs : List Int) (w : World) (e : Ending) (w' : World) : Prop := ∃ (g cp i : Nat) (Z : List Int), e = .returned (.slice (some ⟨g, 0, none⟩) Z.length cp) ∧ 1 ≤ Z.length ∧ Z.length ≤ 4 ∧ Z.length ≤ cp ∧ bsB Z ∧ Stk w' g Z ∧ S + 1 ≤ g ∧ i ≤ 10 ∧ SrcAt w' S i zs ∧ Below S w w'
set_option maxRecDepth 100000 in
set_option maxHeartbeats 4000000 in
theorem l01Drawn_any (S : Nat) (zs : List Int) (w : World) (h : SrcAt w S 0 zs) (hz : S + 1 ≤ w.heap.size) :
    Calls Tryz.prog 26 #[.pointer (some ⟨S, 0, none⟩)] w (DrS S zs w) := by
  obtain ⟨i0, hi0, iz0, iz1, iz2⟩ := info_parts Tryz.infoU8
  have hS1 := h.below ((Below.refl (S + 1) w).alloc (by omega) (.cells #[] 5)) (by omega)
  have hB1 : Below S w (w.alloc (.cells #[] 5)) := (Below.refl S w).alloc (by omega) _
  have hO1 : (w.alloc (.cells #[] 5)).ownsRow (S + 1) 5 1 (.slice (some ⟨w.heap.size, 0, none⟩) 0 0) 0 [] := World.ownsRow_made _ _ 0 (by omega) (by decide) rfl
  obtain ⟨W, hW⟩ : ∃ W, W = w.alloc (.cells #[] 5) := ⟨_, rfl⟩
  rw [← hW] at hS1 hB1 hO1
  have hWz : S + 1 < W.heap.size := by rw [hW]; simp; omega
  have HP := hid (pick_any S 0 zs 4 W hS1 (by omega) (by omega))
  have HB := hid hB1; have HO := hid hO1; have HWZ := hid hWz; have HG1 := hid (show S + 1 ≤ w.heap.size by omega)
  have HW := hid hW
  clear h hz hS1 hB1 hO1 hWz hW
  go_enter Tryz.func26, Tryz.ntmps26
  go_upto_region 2 with fail
  rw [← HW.out]
  clear HW
  go_wp2_with fail
  refine HP.out.mono ?_
  rintro e w2 ⟨x, j, x0, x1, rfl, _, hj, hS, hO⟩
  obtain ⟨K, hKK⟩ : ∃ K : Nat, x = K := ⟨x.toNat, by omega⟩
  subst hKK
  have hK : K ≤ 3 := by omega
  have wK : IntKind.i64.wrap (1 + (K : Int)) = ((K + 1 : Nat) : Int) := by rw [IntWalk.i64_in _ (by omega)]; omega
  have HB2 := hid (HB.out.trans hO.2.2)
  have HO2 := hid (owns_only HO.out hO (by omega))
  have HZ2 := hid (show S + 1 < w2.heap.size by rw [hO.1]; exact HWZ.out)
  have HLT := hid (show w.heap.size < w2.heap.size from by
    rcases HO2.out.2 with ⟨h, _⟩ | ⟨q, cap, cur, h2, h3, h4, r⟩
    · cases h
    · injection h2 with e1; injection e1 with e1; injection e1 with e1; subst e1; exact lt_of_block h4)
  have HS2 := hid hS
  clear hO hS x1 x0 HP HB HO HWZ
  go_wp2_with fail
  go_loopw [3, 4] (fun s4 s5 wr => ∃ (k i : Nat) (v : Value) (ms : List Int), ms.length + k = K + 1 ∧ i ≤ 2 + 2 * ms.length ∧ s5 = .int .i64 k ∧ v = s4 ∧ SrcAt wr S i zs ∧ wr.ownsRow (S + 1) 5 1 v ms.length (ms.map (Value.int .u8)) ∧ (∃ g cp, v = .slice (some ⟨g, 0, none⟩) ms.length cp ∧ S + 1 ≤ g ∧ g < wr.heap.size) ∧ bsB ms ∧ S + 1 < wr.heap.size ∧ Below S w wr) (fun _ s5 _ => (intOf s5).toNat)
  case atStart => exact ⟨K + 1, j, _, [], by simp, by simp; omega, by first | rfl | exact congrArg (Value.int .i64) (by omega), rfl, HS2.out, HO2.out, ⟨_, _, rfl, HG1.out, HLT.out⟩, fun z hz => by simp at hz, HZ2.out, HB2.out⟩
  case round =>
    obtain ⟨k, i, v, ms, hk, hi, rfl, rfl, hS, hO, hA, hM, hz, hB⟩ := hrel
    by_cases hk0 : 0 < k
    · have k1 : (0 : Int) < (k : Int) := by omega
      have w1' : IntKind.i64.wrap ((k : Int) - 1) = (k : Int) - 1 := IntWalk.i64_in _ (by omega)
      -- the bases lie in a row of their own
      have rL := Row.new wr 2 (bsL.map (Value.int .i64))
      have bL : Below wr.heap.size wr (wr.alloc (.cells (bsL.map (Value.int .i64)).toArray 2)) := (Below.refl _ _).alloc (Nat.le_refl _) _
      have hSL := hS.below (bL.mono (show S + 1 ≤ wr.heap.size by omega)) (by omega)
      have hOL := hO.alloc (.cells (bsL.map (Value.int .i64)).toArray 2)
      have hBL := hB.alloc (by omega) (.cells (bsL.map (Value.int .i64)).toArray 2)
      have hzL : S + 1 < (wr.alloc (.cells (bsL.map (Value.int .i64)).toArray 2)).heap.size := by simp; omega
      have eL : (bsL.map (Value.int .i64)).toArray = #[.int .i64 10, .int .i64 10, .int .i64 10, .int .i64 60, .int .i64 24, .int .i64 2, .int .i64 3, .int .i64 12, .int .i64 100] := rfl
      have rL' : Row (wr.alloc (.cells (bsL.map (Value.int .i64)).toArray 2)) wr.heap.size 2 (bsL.map (Value.int .i64)) := rL
      rw [eL] at rL' hSL hOL hBL hzL
      obtain ⟨G, hG⟩ : ∃ G, wr.heap.size = G := ⟨_, rfl⟩
      obtain ⟨U, hU⟩ : ∃ U, U = wr.alloc (.cells #[.int .i64 10, .int .i64 10, .int .i64 10, .int .i64 60, .int .i64 24, .int .i64 2, .int .i64 3, .int .i64 12, .int .i64 100] 2) := ⟨_, rfl⟩
      rw [← hU] at rL' hSL hOL hBL hzL
      rw [hG] at rL'
      have HP := hid (among_any S i zs G 9 9 bsL U hSL (by omega) rL' (by omega) rfl (by omega) (by omega))
      have HO := hid hOL; have HM := hid hM; have HB := hid hBL; have HZ := hid hzL; have HU := hid hU; have HGG := hid hG
      clear hS hO hA hM hB hz rL bL hSL hOL hBL hzL rL' eL hU hG
      go_wp2_with (rw [← HU.out, HGG.out]; with_reducible refine HP.out.mono ?_)
      rintro e w3 ⟨y, j', hy, rfl, _, hj', hS, hO3⟩
      have yb : 2 ≤ y ∧ y ≤ 100 := by
        unfold bsL at hy
        simp only [List.mem_cons, List.not_mem_nil, or_false] at hy
        omega
      have wy : IntKind.u8.wrap y = y := IntWalk.u8_in _ (by omega)
      have hO4 := owns_only HO.out hO3 (by omega)
      have hz3 : S + 1 < w3.heap.size := by rw [hO3.1]; exact HZ.out
      have HO4 := hid (hO4.alloc (.cells #[.int .u8 y] 5))
      have nc := hid (show ∀ j u, ([.int .u8 y] : List Value)[j]? = some u → (w3.alloc (.cells #[.int .u8 y] 5)).cell? ((⟨w3.heap.size, 0, none⟩ : Addr).add j) = some u from fun j u hj => by
        have h := (Row.new w3 5 [.int .u8 y]).cell j
        rw [show (⟨w3.heap.size, 0, none⟩ : Addr).add j = ⟨w3.heap.size, j, none⟩ from by unfold Addr.add; split <;> simp_all]
        exact h.trans hj)
      have HONE := hid (show ∀ u ∈ ([.int .u8 y] : List Value), u.oneCell' = true from by intro u hu; simp at hu; subst hu; rfl)
      have b3 := HB.out.trans hO3.2.2
      have HB7 := hid (show Below S w (w3.alloc (.cells #[.int .u8 y] 5)) from b3.alloc (by omega) _)
      have HS7 := hid (hS.below ((Below.refl (S + 1) w3).alloc (by omega) (.cells #[.int .u8 y] 5)) (by omega))
      have HBW := hid (show S + 1 ≤ (w3.alloc (.cells #[.int .u8 y] 5)).heap.size by simp; omega)
      have HML := hid (show ms.length ≤ 4 by omega)
      have HZ3 := hid hz3
      have HYB := hid hy; have HKK := hid hk; have HJ := hid hj'; have HI := hid hi
      obtain ⟨n, hn⟩ : ∃ n, ms.length = n := ⟨_, rfl⟩
      rw [hn] at HO4 HML HKK HI
      have HN := hid hn
      clear hO3 hO4 hS b3 hz3 hy yb hk hj' hi hn HB HZ HO HP
      go_wp2_with (at_builtin; refine wpList_append_own _ rfl _ _ 24 rfl (S + 1) 5 i0 (.int .u8 0) 1 1 Tryz.underlying24 hi0 iz0 iz1 iz2 rfl (by decide) _ _ _ rfl HO4.out ⟨w3.heap.size, 0, none⟩ 1 1 ([.int .u8 y] : List Value) rfl rfl nc.out HONE.out (by have := HML.out; unfold maxLen; omega) (by have := HML.out; omega) HBW.out ?_; rintro v' w7 hown' hgrow -; have OWN := hid hown'; have GRW := hid hgrow; clear hown' hgrow)
      have lt := fun kk e => (HO4.out.lt kk e).1
      have bel := HB7.out.grown GRW.out (by have := HBW.out; omega) (fun kk e => by have := lt kk e; omega)
      have belS := (Below.refl (S + 1) _).grown GRW.out HBW.out (fun kk e => by have := lt kk e; omega)
      have HS8 := hid (HS7.out.below belS (by omega))
      have HBL := hid bel
      have OW := OWN.out
      rw [show ms.map (Value.int .u8) ++ [.int .u8 y] = (ms ++ [y]).map (Value.int .u8) from by simp] at OW
      have HOW := hid OW
      have HZ8 := hid (show S + 1 < w7.heap.size by have h1 := belS.size; have h2 := HZ3.out; have h3 : (w3.alloc (.cells #[.int .u8 y] 5)).heap.size = w3.heap.size + 1 := by simp
                                                    omega)
      have HAD := hid (show ∃ g cp, v' = .slice (some ⟨g, 0, none⟩) (n + 1) cp ∧ S + 1 ≤ g ∧ g < w7.heap.size from by
        obtain ⟨g, cp, e, h1, h2⟩ := owns_addr OW (by omega)
        refine ⟨g, cp, e, h1, ?_⟩
        have h := OW.2
        rw [e] at h
        rcases h with ⟨h, _⟩ | ⟨q, cap, cur, h2, h3, h4, r⟩
        · cases h
        · injection h2 with e1; injection e1 with e1; injection e1 with e1; subst e1; exact lt_of_block h4)
      clear bel belS OW lt
      go_roundw
      case rel => exact ⟨k - 1, j', v', ms ++ [y], by have := HKK.out; rw [List.length_append, HN.out]; simp; omega, by have := HJ.out; have := HI.out; rw [List.length_append, HN.out]; simp; omega, by rw [show ((k - 1 : Nat) : Int) = (k : Int) - 1 by omega], rfl, HS8.out, by rw [List.length_append, HN.out]; exact HOW.out, by rw [List.length_append, HN.out]; exact HAD.out, fun z hz => by
        rcases List.mem_append.1 hz with h | h
        · exact HM.out z h
        · simp at h; subst h; exact HYB.out, HZ8.out, HBL.out⟩
      case measure => simp [intOf]; omega
    · obtain rfl : k = 0 := by omega
      have HO := hid hO; have HM := hid hM; have HB := hid hB; have HS3 := hid hS; have HI := hid hi
      obtain ⟨g, cp, rfl, hg, hgz⟩ := hA
      have HGZ := hid hgz; have HG := hid hg; have HK2 := hid hk
      clear hS hO hM hB hz hgz hg hk hi
      go_wp2_with fail
      go_ret
      have ho := HO.out.2
      have hml : ms.length ≤ 4 := by have := HK2.out; omega
      rcases ho with ⟨h, _⟩ | ⟨q, cap, cur, h2, h3, h4, h5, h6, h7, h8⟩
      · cases h
      · injection h2 with e1 e2 e3; injection e1 with e1; injection e1 with e1; subst e1; subst e3
        have hr : Row wr g 5 (ms.map (Value.int .u8) ++ cur.toList.drop (ms.length * 1)) := by
          unfold Row
          rw [h4, ← h8, List.take_append_drop]
        refine ⟨g, cp, i, ms, rfl, by have := HK2.out; omega, hml, h5, HM.out, ⟨hr.lt, fun j hj => ?_, fun z hz => ?_, by omega⟩, HG.out, by have := HI.out; omega, HS3.out, HB.out⟩
        · rw [hr.cell j, List.getElem?_append_left (by simpa using hj), List.getElem?_map, List.getElem?_eq_getElem hj]
          rfl
        · have := HM.out z hz
          unfold bsL at this
          simp only [List.mem_cons, List.not_mem_nil, or_false] at this
          omega
theorem bs_szL : ∀ (Z : List Int) (a : Int), 0 ≤ a → (∀ z ∈ Z, 2 ≤ z ∧ z ≤ 100) → 0 ≤ Z.foldl (· * ·) a ∧ Z.foldl (· * ·) a ≤ a * 100 ^ Z.length
  | [], a, h, _ => by simp [h]
  | z :: Z, a, h, hb => by
    have b := hb z (by simp)
    have m0 := Int.mul_nonneg h (show 0 ≤ z by omega)
    have ih := bs_szL Z (a * z) m0 (fun y hy => hb y (by simp [hy]))
    have m1 : a * z ≤ a * 100 := Int.mul_le_mul_of_nonneg_left b.2 h
    have m2 : a * z * 100 ^ Z.length ≤ a * 100 * 100 ^ Z.length := Int.mul_le_mul_of_nonneg_right m1 (Int.pow_nonneg (by omega))
    simp only [List.foldl_cons, List.length_cons]
    rw [Int.pow_succ, Int.mul_comm (100 ^ Z.length) 100, ← Int.mul_assoc]
    exact ⟨ih.1, Int.le_trans ih.2 m2⟩
/-- what is drawn is in order -/
theorem bs_ok {Z : List Int} (h : bsB Z) (h1 : 1 ≤ Z.length) (h4 : Z.length ≤ 4) : okL Z = true ∧ szL Z ≤ 100000000 := by
  have hb : ∀ z ∈ Z, 2 ≤ z ∧ z ≤ 100 := fun z hz => by
    have := h z hz
    unfold bsL at this
    simp only [List.mem_cons, List.not_mem_nil, or_false] at this
    omega
  have k := bs_szL Z 1 (by omega) hb
  have hp : (100 : Int) ^ Z.length ≤ 100000000 := by
    have : Z.length = 1 ∨ Z.length = 2 ∨ Z.length = 3 ∨ Z.length = 4 := by omega
    rcases this with e | e | e | e <;> rw [e] <;> decide
  have hs : szL Z ≤ 100000000 := by unfold szL; omega
  refine ⟨?_, hs⟩
  unfold okL
  exact decide_eq_true ⟨h1, by omega, hb, by omega⟩
/-- a valid stack of a law's bytes -/
theorem p6Stack_any (a : Option Addr) (len cap : Nat) (zs : List Int) (w : World) (h : InB w a len zs) (hl : len ≤ 4096) :
    Calls Tryz.prog 5 #[.slice a len cap] w fun e w' => ∃ (g cp : Nat) (Z : List Int), e = .returned (.slice (some ⟨g, 0, none⟩) Z.length cp) ∧ 1 ≤ Z.length ∧ Z.length ≤ 4 ∧ Z.length ≤ cp ∧ (okL Z = true ∧ szL Z ≤ 100000000) ∧ Stk w' g Z ∧ w.heap.size ≤ g ∧ Below w.heap.size w w' := by
  have HF := hid (from_any a len cap zs w h hl)
  clear h
  go_enter Tryz.func5, Tryz.ntmps5
  go_wp2_with fail
  refine HF.out.mono ?_
  rintro e w1 ⟨rfl, hS, hB, hs⟩
  have HD := hid (l01Drawn_any w.heap.size zs w1 hS (by omega))
  have HB := hid hB
  clear hS hB hs HF
  go_wp2_with fail
  refine HD.out.mono ?_
  rintro e w2 ⟨g, cp, i, Z, rfl, h1, h4, hc, hb, hk, hg, _, _, hB⟩
  have HH := hid (And.intro h1 (And.intro h4 (And.intro hc (And.intro (bs_ok hb h1 h4) (And.intro hk (And.intro (show w.heap.size ≤ g by omega) (HB.out.trans hB)))))))
  clear h1 h4 hc hb hk hg hB
  go_wp2_with fail
  go_ret
  obtain ⟨h1, h4, hc, ho, hk, hg, hB⟩ := HH.out
  exact ⟨g, cp, Z, rfl, h1, h4, hc, ho, hk, hg, hB⟩
set_option maxRecDepth 100000 in
set_option maxHeartbeats 1000000 in
/-- a value of a stack -/
theorem p6Value_any (a : Option Addr) (len cap : Nat) (zs : List Int) (B n cp : Nat) (Z : List Int) (w : World) (h : InB w a len zs) (hl : len ≤ 4096) (hk : Stk w B Z) (hn : n = Z.length) (ho : okL Z = true ∧ szL Z ≤ 100000000) :
    Calls Tryz.prog 6 #[.slice a len cap, .slice (some ⟨B, 0, none⟩) n cp] w fun e w' => ∃ v : Int, (0 ≤ v ∧ v < szL Z) ∧ e = .returned (.int .i64 v) ∧ Below w.heap.size w w' := by
  have HF := hid (from_any a len cap zs w h hl)
  obtain ⟨_, _, hin, hs1, _⟩ := okL_out ho.1
  have SZ := hid (fun W (hS : Stk W B Z) => l01Size_any B n cp Z W hS (by omega) (by rw [hn]; exact hin))
  rw [hn, List.take_length, szC_eq (by omega)] at SZ
  obtain ⟨z, hz⟩ : ∃ z, szL Z = z := ⟨_, rfl⟩
  rw [hz] at SZ hs1 ho ⊢
  have z2 := ho.2
  have HK := hid hk; have HLT := hid hk.1
  clear h hk hin ho hz
  rw [hn]
  obtain ⟨m, hm⟩ : ∃ m, Z.length = m := ⟨_, rfl⟩
  rw [hm] at SZ ⊢
  clear hm hn
  go_enter Tryz.func6, Tryz.ntmps6
  go_wp2_with fail
  refine HF.out.mono ?_
  rintro e w1 ⟨rfl, hS, hB, hs⟩
  have HO := hid (one_anyD w.heap.size 0 zs 4 w1 hS (by omega) (by omega))
  have HB := hid hB
  clear hS hB hs HF
  go_wp2_with fail
  refine HO.out.mono ?_
  rintro e w2 ⟨b, j, rfl, _, hj, hS, hO⟩
  have b2 := HB.out.trans hO.2.2
  have HS2 := hid (SZ.out w2 (HK.out.below b2 HLT.out))
  have HPK := hid (pick_any w.heap.size j zs 1073741824 w2 hS (by omega) (by omega))
  have HB2 := hid b2
  have wz : IntKind.i64.wrap (z - 1) = z - 1 := IntWalk.i64_in _ (by omega)
  clear hS hO b2 hj
  cases b with
  | true =>
    go_wp2_with fail
    refine HS2.out.mono ?_
    rintro e w3 ⟨rfl, hw⟩
    subst hw
    go_wp2_with fail
    go_ret
    exact ⟨z - 1, by omega, rfl, HB2.out⟩
  | false =>
    go_wp2_with fail
    refine HPK.out.mono ?_
    rintro e w3 ⟨x, j', x0, x1, rfl, _, _, _, hO⟩
    have b3 := HB2.out.trans hO.2.2
    have HS3 := hid (SZ.out w3 (HK.out.below b3 HLT.out))
    have HB3 := hid b3
    have e1 : x.tmod z = x % z := Int.tmod_eq_emod_of_nonneg x0
    have m0 := Int.emod_nonneg x (show z ≠ 0 by omega)
    have m1 := Int.emod_lt_of_pos x (show 0 < z by omega)
    obtain ⟨r, hr⟩ : ∃ r, x % z = r := ⟨_, rfl⟩
    rw [hr] at e1 m0 m1
    have wr : IntKind.i64.wrap r = r := IntWalk.i64_in _ (by omega)
    have z0 : z ≠ 0 := by omega
    have HM := hid (And.intro m0 m1)
    clear hO b3 m0 m1 x0 x1 hr
    go_wp2_with fail
    refine HS3.out.mono ?_
    rintro e w4 ⟨rfl, hw⟩
    subst hw
    go_wp2_with fail
    go_ret
    exact ⟨r, HM.out, rfl, HB3.out⟩
end Go.Proofs.YtfifnngdmhdkiaaGreatDoor
