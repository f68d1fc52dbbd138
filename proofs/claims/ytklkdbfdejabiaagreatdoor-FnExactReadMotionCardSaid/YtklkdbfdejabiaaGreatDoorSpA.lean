/- spec.l01Split: a text at a byte. -/
import Derived.Test.YtklkdbfdejabiaaGreatDoorRdM
import Derived.Test.YtklkdbfdejabiaaGreatDoorTxC
import Derived.Laws.Strings
namespace Go.Proofs.YtklkdbfdejabiaaGreatDoor
open Go.RowKit
set_option linter.unusedVariables false
set_option linter.unusedSimpArgs false
def bas (ps : List (List UInt8)) : List ByteArray := ps.map fun p => ⟨p.toArray⟩
theorem bas_len (ps : List (List UInt8)) : (bas ps).length = ps.length := by simp [bas]
def piece (l : List UInt8) (b k : Nat) : List UInt8 := (l.take k).drop b
theorem ext_data (t : ByteArray) (b k : Nat) : (t.extract b k).data.toList = piece t.data.toList b k := by
  simp [piece, ByteArray.data_extract, List.extract_eq_take_drop, List.drop_take]
theorem piece_snoc {l : List UInt8} {b k : Nat} {u : UInt8} (hb : b ≤ k) (h : l[k]? = some u) : piece l b (k + 1) = piece l b k ++ [u] := by
  have hk : k < l.length := by
    by_cases c : k < l.length
    · exact c
    · rw [List.getElem?_eq_none (by omega)] at h; cases h
  have e : l[k] = u := by rw [List.getElem?_eq_getElem hk] at h; exact Option.some.inj h
  unfold piece
  rw [List.take_succ_eq_append_getElem hk, List.drop_append_of_le_length (by simp; omega), e]
theorem drop_at {l : List UInt8} {k : Nat} {u : UInt8} (h : l[k]? = some u) : l.drop k = u :: l.drop (k + 1) := by
  have hk : k < l.length := by
    by_cases c : k < l.length
    · exact c
    · rw [List.getElem?_eq_none (by omega)] at h; cases h
  rw [List.drop_eq_getElem_cons hk]
  rw [List.getElem?_eq_getElem hk] at h
  rw [Option.some.inj h]
def spAt (c : UInt8) (l : List UInt8) (ps : List (List UInt8)) (b k : Nat) : Prop := spl c l = ps ++ hdA (piece l b k) (spl c (l.drop k))
theorem spAt_zero (c : UInt8) (l : List UInt8) : spAt c l [] 0 0 := by simp [spAt, piece, hdA_nil (spl_ne c l)]
theorem spAt_hit {c : UInt8} {l : List UInt8} {ps : List (List UInt8)} {b k : Nat} (h : spAt c l ps b k) (hk : l[k]? = some c) : spAt c l (ps ++ [piece l b k]) (k + 1) (k + 1) := by
  unfold spAt at *
  rw [h, drop_at hk, spl, if_pos rfl, show piece l (k + 1) (k + 1) = [] by simp [piece], hdA_nil (spl_ne _ _)]
  simp [hdA]
theorem spAt_miss {c u : UInt8} {l : List UInt8} {ps : List (List UInt8)} {b k : Nat} (h : spAt c l ps b k) (hb : b ≤ k) (hk : l[k]? = some u) (hu : ¬ u = c) : spAt c l ps b (k + 1) := by
  unfold spAt at *
  rw [h, drop_at hk, spl, if_neg hu, hdA_app _ _ (spl_ne _ _), piece_snoc hb hk]
theorem spAt_end {c : UInt8} {l : List UInt8} {ps : List (List UInt8)} {b : Nat} (h : spAt c l ps b l.length) : spl c l = ps ++ [piece l b l.length] := by
  unfold spAt at h
  rw [h]; simp [spl, hdA]
theorem idx_str (t : ByteArray) (k : Nat) (hk : k < t.size) (ty : TypeId) (hty : Tryz.prog.underlying ty = some .string) : ∃ u : UInt8, t.data.toList[k]? = some u ∧ ∀ w, (Instr.index ty (.string t) (.int .i64 (k : Int))).run Tryz.prog w = .ok (.int .u8 (u.toNat : Int)) w := by
  have hk2 : k < t.data.toList.length := by rw [Array.length_toList]; exact hk
  refine ⟨t.data.toList[k], List.getElem?_eq_getElem hk2, fun w => ?_⟩
  rw [run_index_string w ty t .i64 k hty, dif_pos ⟨by omega, by omega⟩]
  rfl
/-- a list of strings of its own -/
def OwnS' (w : World) (base : Nat) (v : Value) (ss : List ByteArray) : Prop := w.ownsRow base 9 1 v ss.length (ss.map Value.string)
set_option maxRecDepth 100000 in
set_option maxHeartbeats 2000000 in
theorem l01Split_any (t : ByteArray) (ht : t.size ≤ 1048576) (c : UInt8) (ci : Int) (hci : ci = (c.toNat : Int)) (w : World) : Calls Tryz.prog 9 #[.string t, .int .u8 ci] w fun e w' => ∃ v, e = .returned v ∧ OwnS' w' w.heap.size v (bas (spl c t.data.toList)) ∧ Below w.heap.size w w' := by
  obtain ⟨i0, hi0, iz0, iz1, iz2⟩ := info_parts Tryz.infoStr
  have HIX := hid (fun k hk => idx_str t k hk 9 rfl)
  have hsz : t.size = t.data.toList.length := by rw [Array.length_toList]; rfl
  obtain ⟨l, hl⟩ : ∃ l, t.data.toList = l := ⟨_, rfl⟩
  rw [hl] at HIX hsz ⊢
  have HL := hid hl; have HCI := hid hci
  obtain ⟨n, hn⟩ : ∃ n, t.size = n := ⟨_, rfl⟩
  have HN := hid hn
  have HX := hid (fun b k => ext_data t b k)
  rw [hl] at HX
  rw [hn] at ht hsz HIX
  have HSZ := hid hsz
  clear hl hsz hci
  go_enter Tryz.func9, Tryz.ntmps9
  go_wp2_with fail
  go_loopw [5, 6, 7] (fun s5 s6 i wr => ∃ (b k : Nat) (ps : List (List UInt8)) (v : Value), b ≤ k ∧ k ≤ n ∧ ps.length ≤ k ∧ s6 = .int .i64 b ∧ i = .int .i64 k ∧ v = s5 ∧ spAt c l ps b k ∧ wr.ownsRow w.heap.size 9 1 v ps.length ((bas ps).map Value.string) ∧ Below w.heap.size w wr) (fun _ _ i _ => n - (intOf i).toNat)
  case atStart => exact ⟨0, 0, [], _, Nat.le_refl _, Nat.zero_le _, by simp, rfl, rfl, rfl, spAt_zero c l, World.ownsRow_made _ _ 0 (Nat.le_refl _) (by decide) rfl, (Below.refl _ _).alloc (Nat.le_refl _) _⟩
  case round =>
    obtain ⟨b, k, ps, v, hbk, hk, hpl, rfl, rfl, rfl, hS, hO, hB⟩ := hrel
    have b0 : (0 : Int) ≤ (b : Int) := by omega
    have k0 : (0 : Int) ≤ (k : Int) := by omega
    have bk : (b : Int) ≤ (k : Int) := by omega
    have kn : (k : Int) ≤ (n : Int) := by omega
    by_cases hkn : k < n
    · have k1 : (k : Int) < (n : Int) := by omega
      have w1' : IntKind.i64.wrap ((k : Int) + 1) = (k : Int) + 1 := IntWalk.i64_in _ (by omega)
      obtain ⟨u, hu, hix⟩ := HIX.out k hkn
      by_cases huc : u = c
      · subst huc
        have HS := hid (spAt_hit hS hu)
        have hix2 : ∀ w, (Instr.index 9 (.string t) (.int .i64 (k : Int))).run Tryz.prog w = .ok (.int .u8 ci) w := fun w => by rw [hix w, HCI.out]
        obtain ⟨P, hP⟩ : ∃ P, t.extract b k = P := ⟨_, rfl⟩
        have HPD := hid (show P.data.toList = piece l b k by rw [← hP]; exact HX.out b k)
        have HLEN := hid (show ps.length ≤ 1048576 by omega)
        have HO4 := hid (hO.alloc (.cells #[.string P] 9))
        have nc := hid (show ∀ j u, ([.string P] : List Value)[j]? = some u → (wr.alloc (.cells #[.string P] 9)).cell? ((⟨wr.heap.size, 0, none⟩ : Addr).add j) = some u from fun j u hj => by
          have h := (Row.new wr 9 [.string P]).cell j
          rw [show (⟨wr.heap.size, 0, none⟩ : Addr).add j = ⟨wr.heap.size, j, none⟩ from by unfold Addr.add; split <;> simp_all]
          exact h.trans hj)
        have HONE := hid (show ∀ u ∈ ([.string P] : List Value), u.oneCell' = true from by intro u hu; simp at hu; subst hu; rfl)
        have HB7 := hid (show Below w.heap.size w (wr.alloc (.cells #[.string P] 9)) from hB.alloc hB.size _)
        have HBW := hid (show w.heap.size ≤ (wr.alloc (.cells #[.string P] 9)).heap.size by simp; have := hB.size; omega)
        have HPL := hid hpl
        clear hS hu hix hO hB hpl
        go_wp2_with (at_builtin; refine wpList_append_own _ rfl _ _ 32 rfl w.heap.size 9 i0 (.string ⟨#[]⟩) 1 16 Tryz.underlying32 hi0 iz0 iz1 iz2 rfl (by decide) _ _ _ rfl HO4.out ⟨wr.heap.size, 0, none⟩ 1 1 ([.string P] : List Value) rfl rfl nc.out HONE.out (by have := HLEN.out; unfold maxLen; omega) (by have := HLEN.out; omega) HBW.out ?_; rintro v' w7 hown' hgrow -; have OWN := hid hown'; have GRW := hid hgrow; clear hown' hgrow)
        have bel := HB7.out.grown GRW.out HBW.out (fun kk e => by have := (HO4.out.lt kk e).1; omega)
        have OW := OWN.out
        rw [show (bas ps).map Value.string ++ [.string P] = (bas (ps ++ [P.data.toList])).map Value.string from by simp [bas]] at OW
        have HOW := hid OW
        have HBE := hid bel
        clear bel OW
        rw [HPD.out] at HOW
        go_wp2_with fail
        go_roundw
        case rel => exact ⟨k + 1, k + 1, ps ++ [piece l b k], v', Nat.le_refl _, by omega, by have := HPL.out; simp; omega, by go_num, by go_num, rfl, HS.out, by rw [List.length_append]; exact HOW.out, HBE.out⟩
        case measure => simp [intOf]; omega
      · have HS := hid (spAt_miss hS hbk hu huc)
        have hne : ¬ (u.toNat : Int) = ci := by
          rw [HCI.out]
          intro e
          exact huc (UInt8.toNat_inj.1 (by omega))
        obtain ⟨x, hx⟩ : ∃ x : Int, (u.toNat : Int) = x := ⟨_, rfl⟩
        rw [hx] at hix hne
        have HO := hid hO; have HB := hid hB; have HPL := hid hpl
        clear hS hu hO hB hpl hx huc
        go_wp2_with fail
        go_roundw
        case rel => exact ⟨b, k + 1, ps, v, by omega, by omega, by have := HPL.out; omega, rfl, by go_num, rfl, HS.out, HO.out, HB.out⟩
        case measure => simp [intOf]; omega
    · obtain rfl : k = n := by omega
      have HS := hid (spAt_end (by rw [← HSZ.out]; exact hS))
      obtain ⟨P, hP⟩ : ∃ P, t.extract b k = P := ⟨_, rfl⟩
      have HPD := hid (show P.data.toList = piece l b k by rw [← hP]; exact HX.out b k)
      have HLEN := hid (show ps.length ≤ 1048576 by omega)
      have HO4 := hid (hO.alloc (.cells #[.string P] 9))
      have nc := hid (show ∀ j u, ([.string P] : List Value)[j]? = some u → (wr.alloc (.cells #[.string P] 9)).cell? ((⟨wr.heap.size, 0, none⟩ : Addr).add j) = some u from fun j u hj => by
        have h := (Row.new wr 9 [.string P]).cell j
        rw [show (⟨wr.heap.size, 0, none⟩ : Addr).add j = ⟨wr.heap.size, j, none⟩ from by unfold Addr.add; split <;> simp_all]
        exact h.trans hj)
      have HONE := hid (show ∀ u ∈ ([.string P] : List Value), u.oneCell' = true from by intro u hu; simp at hu; subst hu; rfl)
      have HB7 := hid (show Below w.heap.size w (wr.alloc (.cells #[.string P] 9)) from hB.alloc hB.size _)
      have HBW := hid (show w.heap.size ≤ (wr.alloc (.cells #[.string P] 9)).heap.size by simp; have := hB.size; omega)
      clear hS hO hB hpl
      go_wp2_with (at_builtin; refine wpList_append_own _ rfl _ _ 32 rfl w.heap.size 9 i0 (.string ⟨#[]⟩) 1 16 Tryz.underlying32 hi0 iz0 iz1 iz2 rfl (by decide) _ _ _ rfl HO4.out ⟨wr.heap.size, 0, none⟩ 1 1 ([.string P] : List Value) rfl rfl nc.out HONE.out (by have := HLEN.out; unfold maxLen; omega) (by have := HLEN.out; omega) HBW.out ?_; rintro v' w7 hown' hgrow -; have OWN := hid hown'; have GRW := hid hgrow; clear hown' hgrow)
      have bel := HB7.out.grown GRW.out HBW.out (fun kk e => by have := (HO4.out.lt kk e).1; omega)
      have OW := OWN.out
      rw [show (bas ps).map Value.string ++ [.string P] = (bas (ps ++ [P.data.toList])).map Value.string from by simp [bas]] at OW
      have HOW := hid OW
      have HBE := hid bel
      clear bel OW
      go_ret
      refine ⟨v', rfl, ?_, HBE.out⟩
      unfold OwnS'
      rw [HS.out, bas_len, List.length_append]
      have := HOW.out
      rw [HPD.out] at this
      rw [← HSZ.out]
      exact this
end Go.Proofs.YtklkdbfdejabiaaGreatDoor
