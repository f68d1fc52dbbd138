/- A train that is drawn. -/
import Derived.Test.YtdlcbfoghpoliaaSrcP
import Derived.Test.YtdlcbfoghpoliaaOwnP
import Derived.OwnWalk
namespace Go.Proofs.Ytdlcbfoghpoliaa
open Go.RowKit
set_option linter.unusedVariables false
set_option linter.unusedSimpArgs false
theorem SrcAt.below {w w' : World} {g i n : Nat} {zs : List Int} (h : SrcAt w g i zs) (hb : Below n w w') (hn : g < n) : SrcAt w' g i zs := by
  obtain ⟨a, len, cap, s, hR, hI, hl, hg⟩ := h
  refine ⟨a, len, cap, s, hR.below hb hn, ⟨hI.1, hI.2.1, ?_⟩, hl, hg⟩
  rcases hg with h0 | ⟨b, off, rfl, hbg⟩
  · exact .inl h0
  · rcases hI.2.2 with h0 | ⟨b', off', e, hb', hc⟩
    · exact .inl h0
    · injection e with e; injection e with e1 e2
      subst e1; subst e2
      exact .inr ⟨b, off, rfl, Nat.lt_of_lt_of_le hb' hb.size, fun j hj => (hb.cell (p := ⟨b, off + j, none⟩) (by show b < n; omega)).trans (hc j hj)⟩
theorem owns_only {w w' : World} {base g size n : Nat} {e : TypeId} {v : Value} {xs : List Value} (h : w.ownsRow base e size v n xs) (o : OnlyB g w w') (hg : g < base) : w'.ownsRow base e size v n xs := by
  obtain ⟨h1, h2 | ⟨q, cap, cur, h2, h3, h4, r⟩⟩ := h
  · exact ⟨h1, .inl h2⟩
  · exact ⟨h1, .inr ⟨q, cap, cur, h2, h3, (o.2.1 q (by omega)).trans h4, r⟩⟩
theorem owns_addr {w : World} {base size n : Nat} {e : TypeId} {v : Value} {xs : List Value} (h : w.ownsRow base e size v n xs) (hn : 1 ≤ n) : ∃ g cp, v = .slice (some ⟨g, 0, none⟩) n cp ∧ base ≤ g ∧ n ≤ cp := by
  obtain ⟨h1, ⟨_, h2⟩ | ⟨q, cap, cur, h2, h3, h4, h5, r⟩⟩ := h
  · omega
  · exact ⟨q, cap, h2, h3, h5⟩
theorem pvals_snocD (l : List (Int × Int)) (a b : Int) : pvals (l ++ [(a, b)]) = pvals l ++ [.int .i16 a, .int .i16 b] := by
  have e : nums (l ++ [(a, b)]) (l.length * 2) = nums l (l.length * 2) := by
    unfold nums
    apply List.map_congr_left
    intro i hi
    have hi' : i / 2 < l.length := by have := List.mem_range.1 hi; omega
    simp only [num, pd, pn, List.getElem?_append_left hi']
  have p1 : pd (l ++ [(a, b)]) l.length = a := by simp [pd]
  have p2 : pn (l ++ [(a, b)]) l.length = b := by simp [pn]
  unfold pvals
  rw [show (l ++ [(a, b)]).length * 2 = l.length * 2 + 1 + 1 by simp; omega, nums_succ, nums_succ, e, num_even, num_odd, p1, p2]
  simp
/-- wheels that are drawn -/
def tbB (js : List (Int × Int)) : Prop := ∀ x ∈ js, (8 ≤ x.1 ∧ x.1 ≤ 57) ∧ (8 ≤ x.2 ∧ x.2 ≤ 57)
theorem tbB_at {js : List (Int × Int)} (h : tbB js) (j : Nat) (hj : j < js.length) : (8 ≤ pd js j ∧ pd js j ≤ 57) ∧ (8 ≤ pn js j ∧ pn js j ≤ 57) := by
  unfold pd pn
  rw [List.getElem?_eq_getElem hj]
  exact h _ (List.getElem_mem hj)
def DrT (w : World) (e : Ending) (w' : World) : Prop := ∃ (g cp : Nat) (js : List (Int × Int)), e = .returned (.slice (some ⟨g, 0, none⟩) js.length cp) ∧ okT js = true ∧ Bd16 js ∧ Pst w' g js ∧ Below w.heap.size w w'
set_option maxRecDepth 100000 in
set_option maxHeartbeats 4000000 in
theorem p6Train_any (a : Option Addr) (len cap : Nat) (zs : List Int) (w : World) (h : InB w a len zs) (hl : len ≤ 4096) :
    Calls Try.prog 5 #[.slice a len cap] w (DrT w) := by
  have HF := hid (from_any a len cap zs w h hl)
  obtain ⟨i0, hi0, iz0, iz1, iz2⟩ := info_parts Try.infoPair
  clear h
  go_enter Try.func5, Try.ntmps5
  go_wp2_with fail
  refine HF.out.mono ?_
  rintro e w1 ⟨rfl, hS, hB, hsz⟩
  obtain ⟨S, hSS⟩ : ∃ S, w.heap.size = S := ⟨_, rfl⟩
  rw [hSS] at hS hB hsz ⊢
  have hS1 := hS.below ((Below.refl (S + 1) w1).alloc (by omega) (.cells #[] 41)) (by omega)
  have hB1 := hB.alloc (by omega) (.cells #[] 41)
  have hO1 : (w1.alloc (.cells #[] 41)).ownsRow (S + 1) 41 2 (.slice (some ⟨w1.heap.size, 0, none⟩) 0 0) 0 [] := World.ownsRow_made _ _ 0 (by omega) (by decide) rfl
  obtain ⟨W, hW⟩ : ∃ W, W = w1.alloc (.cells #[] 41) := ⟨_, rfl⟩
  rw [← hW] at hS1 hB1 hO1
  have hWz : S + 1 < W.heap.size := by rw [hW]; simp; omega
  have HP := hid (pick_any S 0 zs 3 W hS1 (by omega) (by omega))
  have HB := hid hB1; have HO := hid hO1; have HWZ := hid hWz; have HG1 := hid (show S + 1 ≤ w1.heap.size by omega)
  have HW := hid hW
  clear hS hB hsz hS1 hB1 hO1 hWz HF hW
  have HSS := hid hSS
  clear hSS
  go_upto_region 3 with fail
  rw [← HW.out]
  clear HW
  go_wp2_with fail
  refine HP.out.mono ?_
  rintro e w2 ⟨x, j, x0, x1, rfl, _, hj, hS, hO⟩
  obtain ⟨K, hKK⟩ : ∃ K : Nat, x = K := ⟨x.toNat, by omega⟩
  subst hKK
  have hK : K ≤ 2 := by omega
  have wK : IntKind.i64.wrap (1 + (K : Int)) = ((K + 1 : Nat) : Int) := by rw [IntWalk.i64_in _ (by omega)]; omega
  have HB2 := hid (HB.out.trans hO.2.2)
  have HO2 := hid (owns_only HO.out hO (by omega))
  have HZ2 := hid (show S + 1 < w2.heap.size by rw [hO.1]; exact HWZ.out)
  have HLT := hid (show w1.heap.size < w2.heap.size from by
    rcases HO2.out.2 with ⟨h, _⟩ | ⟨q, cap, cur, h2, h3, h4, r⟩
    · cases h
    · injection h2 with e1; injection e1 with e1; injection e1 with e1; subst e1; exact lt_of_block h4)
  have HS2 := hid hS
  clear hO hS x1 x0 HP HB HO HWZ
  go_wp2_with fail
  go_loopw [4, 5] (fun s4 s5 wr => ∃ (k i : Nat) (v : Value) (ms : List (Int × Int)), ms.length + k = K + 1 ∧ i ≤ 2 + 4 * ms.length ∧ s5 = .int .i64 k ∧ v = s4 ∧ SrcAt wr S i zs ∧ wr.ownsRow (S + 1) 41 2 v ms.length (pvals ms) ∧ (∃ g cp, v = .slice (some ⟨g, 0, none⟩) ms.length cp ∧ S + 1 ≤ g ∧ g < wr.heap.size) ∧ tbB ms ∧ S + 1 < wr.heap.size ∧ Below S w wr) (fun _ s5 _ => (intOf s5).toNat)
  case atStart => exact ⟨K + 1, j, _, [], by simp, by simp; omega, by first | rfl | exact congrArg (Value.int .i64) (by omega), rfl, HS2.out, HO2.out, ⟨_, _, rfl, HG1.out, HLT.out⟩, fun z hz => by simp at hz, HZ2.out, HB2.out⟩
  case round =>
    obtain ⟨k, i, v, ms, hk, hi, rfl, rfl, hS, hO, hA, hM, hz, hB⟩ := hrel
    by_cases hk0 : 0 < k
    · have k1 : (0 : Int) < (k : Int) := by omega
      have w1' : IntKind.i64.wrap ((k : Int) - 1) = (k : Int) - 1 := IntWalk.i64_in _ (by omega)
      have HP := hid (pick_any S i zs 50 wr hS (by omega) (by omega))
      have HO := hid hO; have HM := hid hM; have HB := hid hB; have HZ := hid hz; have HKK := hid hk; have HI := hid hi
      clear hS hO hA hM hB hz hk hi
      go_wp2_with fail
      with_reducible refine HP.out.mono ?_
      rintro e w2' ⟨x, j1, x0, x1, rfl, _, hj1, hS, hO2⟩
      have wx : IntKind.i64.wrap (8 + x) = 8 + x := IntWalk.i64_in _ (by omega)
      have wx2 : IntKind.i16.wrap (8 + x) = 8 + x := IntWalk.i16_in _ (by omega)
      have xb : 8 ≤ 8 + x ∧ 8 + x ≤ 57 := by omega
      obtain ⟨A, hA⟩ : ∃ y, 8 + x = y := ⟨_, rfl⟩
      rw [hA] at wx2 xb
      replace wx := wx.trans hA
      have HXB := hid xb
      have HO2 := hid (owns_only HO.out hO2 (by omega))
      have HB2 := hid (HB.out.trans hO2.2.2)
      have HZ2 := hid (show S + 1 < w2'.heap.size by rw [hO2.1]; exact HZ.out)
      have HP2 := hid (pick_any S j1 zs 50 w2' hS (by have := HI.out; have := HKK.out; omega) (by omega))
      have HJ1 := hid hj1
      clear hS hO2 x0 x1 xb hj1 HP HO HB HZ hA
      go_wp2_with fail
      with_reducible refine HP2.out.mono ?_
      rintro e w3 ⟨y, j', x0, x1, rfl, _, hj', hS, hO3⟩
      have wy : IntKind.i64.wrap (8 + y) = 8 + y := IntWalk.i64_in _ (by omega)
      have wy2 : IntKind.i16.wrap (8 + y) = 8 + y := IntWalk.i16_in _ (by omega)
      have yb : 8 ≤ 8 + y ∧ 8 + y ≤ 57 := by omega
      obtain ⟨C, hC⟩ : ∃ y', 8 + y = y' := ⟨_, rfl⟩
      rw [hC] at wy2 yb
      replace wy := wy.trans hC
      have hO4 := owns_only HO2.out hO3 (by omega)
      have hz3 : S + 1 < w3.heap.size := by rw [hO3.1]; exact HZ2.out
      have HO4 := hid (hO4.alloc (.cells #[.int .i16 A, .int .i16 C] 41))
      have nc := hid (show ∀ j u, ([.int .i16 A, .int .i16 C] : List Value)[j]? = some u → (w3.alloc (.cells #[.int .i16 A, .int .i16 C] 41)).cell? ((⟨w3.heap.size, 0, none⟩ : Addr).add j) = some u from fun j u hj => by
        have h := (Row.new w3 41 [.int .i16 A, .int .i16 C]).cell j
        rw [show (⟨w3.heap.size, 0, none⟩ : Addr).add j = ⟨w3.heap.size, j, none⟩ from by unfold Addr.add; split <;> simp_all]
        exact h.trans hj)
      have HONE := hid (show ∀ u ∈ ([.int .i16 A, .int .i16 C] : List Value), u.oneCell' = true from by intro u hu; simp at hu; rcases hu with rfl | rfl <;> rfl)
      have b3 := HB2.out.trans hO3.2.2
      have HB7 := hid (show Below S w (w3.alloc (.cells #[.int .i16 A, .int .i16 C] 41)) from b3.alloc (by omega) _)
      have HS7 := hid (hS.below ((Below.refl (S + 1) w3).alloc (by omega) (.cells #[.int .i16 A, .int .i16 C] 41)) (by omega))
      have HBW := hid (show S + 1 ≤ (w3.alloc (.cells #[.int .i16 A, .int .i16 C] 41)).heap.size by simp; omega)
      have HML := hid (show ms.length ≤ 4 by have := HKK.out; omega)
      have HZ3 := hid hz3
      have HYB := hid yb; have HJ := hid hj'
      obtain ⟨n, hn⟩ : ∃ n, ms.length = n := ⟨_, rfl⟩
      rw [hn] at HO4 HML HKK HI
      have HN := hid hn
      clear hO3 hO4 hS b3 hz3 yb hj' hn HB2 HZ2 HO2 HP2 x0 x1 hC
      go_wp2_with (at_builtin; refine wpList_append_own _ rfl _ _ 25 rfl (S + 1) 41 i0 (.agg #[.int .i16 0, .int .i16 0]) 2 4 Try.underlying25 hi0 iz0 iz1 iz2 rfl (by decide) _ _ _ rfl HO4.out ⟨w3.heap.size, 0, none⟩ 1 1 ([.int .i16 A, .int .i16 C] : List Value) rfl rfl nc.out HONE.out (by have := HML.out; unfold maxLen; omega) (by have := HML.out; omega) HBW.out ?_; rintro v' w7 hown' hgrow -; have OWN := hid hown'; have GRW := hid hgrow; clear hown' hgrow)
      have lt := fun kk e => (HO4.out.lt kk e).1
      have bel := HB7.out.grown GRW.out (by have := HBW.out; omega) (fun kk e => by have := lt kk e; omega)
      have belS := (Below.refl (S + 1) _).grown GRW.out HBW.out (fun kk e => by have := lt kk e; omega)
      have HS8 := hid (HS7.out.below belS (by omega))
      have HBL := hid bel
      have OW := OWN.out
      rw [← pvals_snocD] at OW
      have HOW := hid OW
      have HZ8 := hid (show S + 1 < w7.heap.size by have h1 := belS.size; have h2 := HZ3.out; have h3 : (w3.alloc (.cells #[.int .i16 A, .int .i16 C] 41)).heap.size = w3.heap.size + 1 := by simp
                                                    omega)
      have HAD := hid (show ∃ g cp, v' = .slice (some ⟨g, 0, none⟩) (n + 1) cp ∧ S + 1 ≤ g ∧ g < w7.heap.size from by
        obtain ⟨g, cp, e, h1, h2⟩ := owns_addr OW (by omega)
        refine ⟨g, cp, e, h1, ?_⟩
        have h := OW.2
        rw [e] at h
        rcases h with ⟨h, _⟩ | ⟨q, cap, cur, h2, h3, h4, r⟩
        · cases h
        · injection h2 with e1; injection e1 with e1; injection e1 with e1; subst e1; exact lt_of_block h4)
      clear bel belS OW lt
      go_roundw
      case rel => exact ⟨k - 1, j', v', ms ++ [(A, C)], by have := HKK.out; rw [List.length_append, HN.out]; simp; omega, by have := HJ.out; have := HJ1.out; have := HI.out; rw [List.length_append, HN.out]; simp; omega, by rw [show ((k - 1 : Nat) : Int) = (k : Int) - 1 by omega], rfl, HS8.out, by rw [List.length_append, HN.out]; exact HOW.out, by rw [List.length_append, HN.out]; exact HAD.out, fun z hz => by
        rcases List.mem_append.1 hz with h | h
        · exact HM.out z h
        · simp at h; subst h; exact ⟨HXB.out, HYB.out⟩, HZ8.out, HBL.out⟩
      case measure => simp [intOf]; omega
    · obtain rfl : k = 0 := by omega
      have HO := hid hO; have HM := hid hM; have HB := hid hB; have HS3 := hid hS; have HI := hid hi
      obtain ⟨g, cp, rfl, hg, hgz⟩ := hA
      have HGZ := hid hgz; have HG := hid hg; have HK2 := hid hk
      clear hS hO hM hB hz hgz hg hk hi
      go_wp2_with fail
      go_ret
      have ho := HO.out.2
      have hml : 1 ≤ ms.length ∧ ms.length ≤ 3 := by have := HK2.out; omega
      rcases ho with ⟨h, _⟩ | ⟨q, cap, cur, h2, h3, h4, h5, h6, h7, h8⟩
      · cases h
      · injection h2 with e1 e2 e3; injection e1 with e1; injection e1 with e1; subst e1; subst e3
        have hr : Row wr g 41 (pvals ms ++ cur.toList.drop (ms.length * 2)) := by
          unfold Row
          rw [h4, ← h8, List.take_append_drop]
        have hb := fun j hj => tbB_at HM.out j hj
        refine ⟨g, cp, ms, rfl, okT_all hml.1 (by omega) (fun j hj => ?_), fun j hj => ?_, OwnP.pst hr (by omega), by rw [HSS.out]; exact HB.out⟩
        · have := hb j hj; exact ⟨⟨by omega, by omega⟩, ⟨by omega, by omega⟩⟩
        · have := hb j hj; exact ⟨⟨by omega, by omega⟩, ⟨by omega, by omega⟩⟩
end Go.Proofs.Ytdlcbfoghpoliaa
