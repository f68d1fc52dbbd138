/- Ratchets: moves that are drawn; numbers. -/
import Derived.Test.YtpnhmncamcdipaaBackO
import Derived.Test.YtpnhmncamcdipaaSrc
import Derived.OwnWalk
namespace Go.Proofs.Ytpnhmncamcdipaa
open Go.RowKit
set_option linter.unusedVariables false
set_option linter.unusedSimpArgs false
theorem SrcAt.below {w w' : World} {g i n : Nat} {zs : List Int} (h : SrcAt w g i zs) (hb : Below n w w') (hn : g < n) : SrcAt w' g i zs := by
  obtain ⟨a, len, cap, s, hR, hI, hl, hg⟩ := h
  refine ⟨a, len, cap, s, hR.below hb hn, ⟨hI.1, hI.2.1, ?_⟩, hl, hg⟩
  rcases hg with h0 | ⟨b, off, rfl, hbg⟩
  · exact .inl h0
  · rcases hI.2.2 with h0 | ⟨b', off', e, hb', hc⟩
    · exact .inl h0
    · injection e with e; injection e with e1 e2
      subst e1; subst e2
      exact .inr ⟨b, off, rfl, Nat.lt_of_lt_of_le hb' hb.size, fun j hj => (hb.cell (p := ⟨b, off + j, none⟩) (by show b < n; omega)).trans (hc j hj)⟩
theorem owns_only {w w' : World} {base g size n : Nat} {e : TypeId} {v : Value} {xs : List Value} (h : w.ownsRow base e size v n xs) (o : OnlyB g w w') (hg : g < base) : w'.ownsRow base e size v n xs := by
  obtain ⟨h1, h2 | ⟨q, cap, cur, h2, h3, h4, r⟩⟩ := h
  · exact ⟨h1, .inl h2⟩
  · exact ⟨h1, .inr ⟨q, cap, cur, h2, h3, (o.2.1 q (by omega)).trans h4, r⟩⟩
theorem owns_addr {w : World} {base size n : Nat} {e : TypeId} {v : Value} {xs : List Value} (h : w.ownsRow base e size v n xs) (hn : 1 ≤ n) : ∃ g cp, v = .slice (some ⟨g, 0, none⟩) n cp ∧ base ≤ g ∧ n ≤ cp := by
  obtain ⟨h1, ⟨_, h2⟩ | ⟨q, cap, cur, h2, h3, h4, h5, r⟩⟩ := h
  · omega
  · exact ⟨q, cap, h2, h3, h5⟩
def mvB (ms : List Int) : Prop := ∀ z ∈ ms, -500 ≤ z ∧ z ≤ 900
set_option maxRecDepth 100000 in
set_option maxHeartbeats 2000000 in
theorem a2Moves_any (a : Option Addr) (len cap : Nat) (zs : List Int) (w : World) (h : InB w a len zs) (hl : len ≤ 4096) :
    Calls Try.prog 8 #[.slice a len cap] w fun e w' => ∃ (g n cp : Nat) (ms : List Int), e = .returned (.slice (some ⟨g, 0, none⟩) n cp) ∧ n = ms.length ∧ n ≤ 6 ∧ n ≤ cp ∧ mvB ms ∧ Lst w' g ms ∧ w.heap.size ≤ g ∧ Below w.heap.size w w' := by
  have HF := hid (from_any a len cap zs w h hl)
  obtain ⟨i0, hi0, iz0, iz1, iz2⟩ := info_parts Try.infoI64
  clear h
  go_enter Try.func8, Try.ntmps8
  go_wp2_with fail
  refine HF.out.mono ?_
  rintro e w1 ⟨rfl, hS, hB, hsz⟩
  obtain ⟨S, hSS⟩ : ∃ S, w.heap.size = S := ⟨_, rfl⟩
  rw [hSS] at hS hB hsz ⊢
  have hS1 := hS.below ((Below.refl (S + 1) w1).alloc (by omega) (.cells #[] 2)) (by omega)
  have hB1 := hB.alloc (by omega) (.cells #[] 2)
  have hO1 : (w1.alloc (.cells #[] 2)).ownsRow (S + 1) 2 1 (.slice (some ⟨w1.heap.size, 0, none⟩) 0 0) 0 [] := World.ownsRow_made _ _ 0 (by omega) (by decide) rfl
  obtain ⟨W, hW⟩ : ∃ W, W = w1.alloc (.cells #[] 2) := ⟨_, rfl⟩
  rw [← hW] at hS1 hB1 hO1
  have hWz : S + 1 < W.heap.size := by rw [hW]; simp; omega
  have HP := hid (pick_any S 0 zs 7 W hS1 (by omega) (by omega))
  have HB := hid hB1; have HO := hid hO1; have HWZ := hid hWz; have HG1 := hid (show S + 1 ≤ w1.heap.size by omega)
  clear hS hB hsz hS1 hB1 hO1 hWz HF
  have HSS := hid hSS
  clear hSS
  go_upto_region 3 with fail
  rw [← hW]
  clear hW
  go_wp2_with fail
  refine HP.out.mono ?_
  rintro e w2 ⟨x, j, x0, x1, rfl, _, hj, hS, hO⟩
  obtain ⟨K, rfl⟩ : ∃ K : Nat, x = K := ⟨x.toNat, by omega⟩
  have hK : K ≤ 6 := by omega
  have HB2 := hid (HB.out.trans hO.2.2)
  have HO2 := hid (owns_only HO.out hO (by omega))
  have HZ2 := hid (show S + 1 < w2.heap.size by rw [hO.1]; exact HWZ.out)
  have HLT := hid (show w1.heap.size < w2.heap.size from by
    rcases HO2.out.2 with ⟨h, _⟩ | ⟨q, cap, cur, h2, h3, h4, r⟩
    · cases h
    · injection h2 with e1; injection e1 with e1; injection e1 with e1; subst e1; exact lt_of_block h4)
  have HS2 := hid hS
  clear hO hS x1 x0 HP HB HO HWZ
  go_wp2_with fail
  go_loopw [4, 5] (fun s4 s5 wr => ∃ (k i : Nat) (v : Value) (ms : List Int), ms.length + k = K ∧ i ≤ 2 + 2 * ms.length ∧ s5 = .int .i64 k ∧ v = s4 ∧ SrcAt wr S i zs ∧ wr.ownsRow (S + 1) 2 1 v ms.length (ms.map (Value.int .i64)) ∧ (∃ g cp, v = .slice (some ⟨g, 0, none⟩) ms.length cp ∧ S + 1 ≤ g ∧ g < wr.heap.size) ∧ mvB ms ∧ S + 1 < wr.heap.size ∧ Below S w wr) (fun _ s5 _ => (intOf s5).toNat)
  case atStart => exact ⟨K, j, _, [], by simp, by simp; omega, rfl, rfl, HS2.out, HO2.out, ⟨_, _, rfl, HG1.out, HLT.out⟩, fun z hz => by simp at hz, HZ2.out, HB2.out⟩
  case round =>
    obtain ⟨k, i, v, ms, hk, hi, rfl, rfl, hS, hO, hA, hM, hz, hB⟩ := hrel
    by_cases hk0 : 0 < k
    · have k1 : (0 : Int) < (k : Int) := by omega
      have w1' : IntKind.i64.wrap ((k : Int) - 1) = (k : Int) - 1 := IntWalk.i64_in _ (by omega)
      have HP := hid (pick_any S i zs 1400 wr hS (by omega) (by omega))
      have HO := hid hO; have HM := hid hM; have HB := hid hB; have HZ := hid hz
      clear hS hO hA hM hB hz
      go_wp2_with fail
      refine HP.out.mono ?_
      rintro e w3 ⟨x, j', x0, x1, rfl, _, hj', hS, hO3⟩
      have x2 : x < 1400 := by omega
      have wx : IntKind.i64.wrap (x - 500) = x - 500 := IntWalk.i64_in _ (by omega)
      have hO4 := owns_only HO.out hO3 (by omega)
      obtain ⟨y, hy⟩ : ∃ y, x - 500 = y := ⟨_, rfl⟩
      have wy : IntKind.i64.wrap y = y := IntWalk.i64_in _ (by omega)
      have yb : -500 ≤ y ∧ y ≤ 900 := by omega
      have hz3 : S + 1 < w3.heap.size := by rw [hO3.1]; exact HZ.out
      have HO4 := hid (hO4.alloc (.cells #[.int .i64 y] 2))
      have nc := hid (show ∀ j u, ([.int .i64 y] : List Value)[j]? = some u → (w3.alloc (.cells #[.int .i64 y] 2)).cell? ((⟨w3.heap.size, 0, none⟩ : Addr).add j) = some u from fun j u hj => by
        have h := (Row.new w3 2 [.int .i64 y]).cell j
        rw [show (⟨w3.heap.size, 0, none⟩ : Addr).add j = ⟨w3.heap.size, j, none⟩ from by unfold Addr.add; split <;> simp_all]
        exact h.trans hj)
      have HONE := hid (show ∀ u ∈ ([.int .i64 y] : List Value), u.oneCell' = true from by intro u hu; simp at hu; subst hu; rfl)
      have b3 := HB.out.trans hO3.2.2
      have HB7 := hid (show Below S w (w3.alloc (.cells #[.int .i64 y] 2)) from b3.alloc (by omega) _)
      have HS7 := hid (hS.below ((Below.refl (S + 1) w3).alloc (by omega) (.cells #[.int .i64 y] 2)) (by omega))
      have HBW := hid (show S + 1 ≤ (w3.alloc (.cells #[.int .i64 y] 2)).heap.size by simp; omega)
      have HML := hid (show ms.length ≤ 6 by omega)
      have HZ3 := hid hz3
      have HYB := hid yb; have HKK := hid hk; have HJ := hid hj'; have HI := hid hi
      obtain ⟨n, hn⟩ : ∃ n, ms.length = n := ⟨_, rfl⟩
      rw [hn] at HO4 HML HKK HI
      have HN := hid hn
      clear hO3 hO4 hS b3 hz3 yb hk hj' hi hn HB HZ HO HP
      go_wp2_with (at_builtin; refine wpList_append_own _ rfl _ _ 25 rfl (S + 1) 2 i0 (.int .i64 0) 1 8 Try.underlying25 hi0 iz0 iz1 iz2 rfl (by decide) _ _ _ rfl HO4.out ⟨w3.heap.size, 0, none⟩ 1 1 ([.int .i64 y] : List Value) rfl rfl nc.out HONE.out (by have := HML.out; unfold maxLen; omega) (by have := HML.out; omega) HBW.out ?_; rintro v' w7 hown' hgrow -; have OWN := hid hown'; have GRW := hid hgrow; clear hown' hgrow)
      have lt := fun kk e => (HO4.out.lt kk e).1
      have bel := HB7.out.grown GRW.out (by have := HBW.out; omega) (fun kk e => by have := lt kk e; omega)
      have belS := (Below.refl (S + 1) _).grown GRW.out HBW.out (fun kk e => by have := lt kk e; omega)
      have HS8 := hid (HS7.out.below belS (by omega))
      have HBL := hid bel
      have OW := OWN.out
      rw [show ms.map (Value.int .i64) ++ [.int .i64 y] = (ms ++ [y]).map (Value.int .i64) from by simp] at OW
      have HOW := hid OW
      have HZ8 := hid (show S + 1 < w7.heap.size by have h1 := belS.size; have h2 := HZ3.out; have h3 : (w3.alloc (.cells #[.int .i64 y] 2)).heap.size = w3.heap.size + 1 := by simp
                                                    omega)
      have HAD := hid (show ∃ g cp, v' = .slice (some ⟨g, 0, none⟩) (n + 1) cp ∧ S + 1 ≤ g ∧ g < w7.heap.size from by
        obtain ⟨g, cp, e, h1, h2⟩ := owns_addr OW (by omega)
        refine ⟨g, cp, e, h1, ?_⟩
        have h := OW.2
        rw [e] at h
        rcases h with ⟨h, _⟩ | ⟨q, cap, cur, h2, h3, h4, r⟩
        · cases h
        · injection h2 with e1; injection e1 with e1; injection e1 with e1; subst e1; exact lt_of_block h4)
      clear bel belS OW lt
      go_roundw
      case rel => exact ⟨k - 1, j', v', ms ++ [y], by have := HKK.out; rw [List.length_append, HN.out]; simp; omega, by have := HJ.out; have := HI.out; rw [List.length_append, HN.out]; simp; omega, by rw [show ((k - 1 : Nat) : Int) = (k : Int) - 1 by omega], rfl, HS8.out, by rw [List.length_append, HN.out]; exact HOW.out, by rw [List.length_append, HN.out]; exact HAD.out, fun z hz => by
        rcases List.mem_append.1 hz with h | h
        · exact HM.out z h
        · simp at h; subst h; exact HYB.out, HZ8.out, HBL.out⟩
      case measure => simp [intOf]; omega
    · obtain rfl : k = 0 := by omega
      have HO := hid hO; have HM := hid hM; have HB := hid hB
      obtain ⟨g, cp, rfl, hg, hgz⟩ := hA
      have HGZ := hid hgz; have HG := hid hg; have HK2 := hid hk
      clear hS hO hM hB hz hgz hg hk
      go_wp2_with fail
      go_ret
      have ho := HO.out.2
      have hml : ms.length ≤ 6 := by have := HK2.out; omega
      rcases ho with ⟨h, _⟩ | ⟨q, cap, cur, h2, h3, h4, h5, h6, h7, h8⟩
      · cases h
      · injection h2 with e1 e2 e3; injection e1 with e1; injection e1 with e1; subst e1; subst e3
        have hr : Row wr g 2 (ms.map (Value.int .i64) ++ cur.toList.drop (ms.length * 1)) := by
          unfold Row
          rw [h4, ← h8, List.take_append_drop]
        refine ⟨g, ms.length, cp, ms, rfl, rfl, hml, h5, HM.out, ⟨hr.lt, fun j hj => ?_, fun z hz => by have := HM.out z hz; omega, by omega⟩, by have := HG.out; rw [HSS.out]; omega, by rw [HSS.out]; exact HB.out⟩
        rw [hr.cell j, List.getElem?_append_left (by simpa using hj), List.getElem?_map, List.getElem?_eq_getElem hj]
        rfl
end Go.Proofs.Ytpnhmncamcdipaa
