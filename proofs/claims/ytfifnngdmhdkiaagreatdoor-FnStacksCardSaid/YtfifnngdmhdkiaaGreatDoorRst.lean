/- impl.ReadStack. -/
import Derived.Test.YtfifnngdmhdkiaaGreatDoorRstM
namespace Go.Proofs.YtfifnngdmhdkiaaGreatDoor
open Go.RowKit
set_option linter.unusedVariables false
set_option linter.unusedSimpArgs false
set_option maxRecDepth 100000 in
set_option maxHeartbeats 1000000 in
theorem validStack_nil (w : World) : Calls Tryz.prog 17 #[.slice none 0 0] w fun e w' => e = .returned (.bool false) ∧ w = w' := by
  go_enter Tryz.func17, Tryz.ntmps17
  go_wp2_with fail
  go_ret
  exact ⟨rfl, rfl⟩
theorem pwI_bd (p : ByteArray) : 0 ≤ pwI p ∧ pwI p ≤ 255 := by
  unfold pwI pw
  cases h : Lib.parseUintB 8 p.data.toList with
  | ok u => have := Lib.parseUintB_le h; simp; omega
  | «syntax» => simp
  | range => simp
theorem rsR_no {l : List UInt8} (h : stkR l = none) : rsR l = ([], 5) := by simp [rsR, h]
theorem rsR_yes {l : List UInt8} {zs : List Int} (h : stkR l = some zs) : rsR l = (zs, 0) := by simp [rsR, h]
/-- the variables of the library, the table too -/
def LW (w : World) (tS : TypeId) (pS : Value) (tR : TypeId) (pR : Value) (m : Int) : Prop := LV w tS pS tR pR m ∧ Lib.TabIs Tryz.prog w "internal/strconv.uint64pow10" .u64 Lib.pow10Tab ∧ 2 < w.heap.size
theorem LW.below {w w' : World} {tS tR : TypeId} {pS pR : Value} {m : Int} {n : Nat} (h : LW w tS pS tR pR m) (hb : Below n w w') (hn : w.heap.size ≤ n) : LW w' tS pS tR pR m :=
  ⟨h.1.below hb hn, tab_below h.2.1 hb (Nat.lt_of_lt_of_le h.2.2 hn), Nat.lt_of_lt_of_le h.2.2 hb.size⟩
theorem owns_lowB {w : World} {b' base size n : Nat} {e : TypeId} {v : Value} {xs : List Value} (h : w.ownsRow base e size v n xs) (hb : b' ≤ base) : w.ownsRow b' e size v n xs := by
  obtain ⟨h1, h2 | ⟨g, cap, cur, h2, h3, r⟩⟩ := h
  · exact ⟨h1, .inl h2⟩
  · exact ⟨h1, .inr ⟨g, cap, cur, h2, by omega, r⟩⟩
set_option maxRecDepth 100000 in
set_option maxHeartbeats 1000000 in
theorem implReadStack_any (t : ByteArray) (ht : t.size ≤ 1048576) (w : World) {tS tR : TypeId} {pS pR : Value} {m : Int} (hL : LW w tS pS tR pR m) : Calls Tryz.prog 11 #[.string t] w (RsR (rsR t.data.toList) w) := by
  have HRL := hid (implRlf_any t ht w hL.1)
  have HL := hid hL
  have hdt : t.toList = t.data.toList := Lib.toList_data t
  have HW9 := hid (fun zs h => w9_of (t := t) (zs := zs) h)
  have HTX := hid (fun zs h => stkR_text (l := t.data.toList) (zs := zs) h)
  have HOF := hid (fun zs (ho : okL zs = true) (e : txS zs = t.data.toList) => show stkR t.data.toList = some zs from by rw [← e]; exact stkR_of ho)
  obtain ⟨l, hl⟩ : ∃ l, t.data.toList = l := ⟨_, rfl⟩
  rw [hl] at HW9 HTX HOF hdt ⊢
  have HDT := hid hdt
  have h9 : (w9 t).length ≤ 9 := by have := Lib.splitB_length_le ⟨#[58]⟩ 0 (min 9 (t.size + 1) - 1) t; unfold w9; omega
  have h1 : 1 ≤ (w9 t).length := by
    unfold w9
    cases hk : min 9 (t.size + 1) - 1 with
    | zero => simp [Lib.splitB]
    | succ k => unfold Lib.splitB; split <;> simp
  have hbd : ∀ z ∈ (w9 t).reverse.map pwI, 0 ≤ z ∧ z ≤ 255 := fun z hz => by
    simp only [List.mem_map] at hz
    obtain ⟨p, _, rfl⟩ := hz
    exact pwI_bd p
  have hlen : ((w9 t).reverse.map pwI).length = (w9 t).length := by simp
  unfold RlG at HRL
  obtain ⟨zs, hzs⟩ : ∃ zs, (w9 t).reverse.map pwI = zs := ⟨_, rfl⟩
  obtain ⟨al, hal⟩ : ∃ al, ((w9 t).all fun p => (pw p).isSome) = al := ⟨_, rfl⟩
  rw [hzs, hal] at HRL HW9
  rw [hzs] at hbd hlen
  obtain ⟨n, hn⟩ : ∃ n, (w9 t).length = n := ⟨_, rfl⟩
  rw [hn] at HRL hlen h9 h1
  have HBD := hid hbd; have HLEN := hid hlen
  clear hl hdt hzs hal hn hbd hlen hL ht
  go_enter Tryz.func11, Tryz.ntmps11
  go_wp2_with fail
  refine HRL.out.mono ?_
  rintro e w1 ⟨v, rfl, hB, ⟨hal, hO⟩ | ⟨hal, rfl⟩⟩
  · obtain ⟨g, cp, rfl, hg, hS⟩ := owns_stk hO h1 HBD.out (by have := HLEN.out; omega)
    have HV := hid (validStack_any g n cp zs w1 hS HLEN.out.symm)
    have HST := hid (implST_any g n cp zs w1 hS HLEN.out.symm (HL.out.below hB (Nat.le_refl _)).2.1 (HL.out.below hB (Nat.le_refl _)).2.2)
    have HOB := hid (OwnB.of_owns hO (by have := HLEN.out; omega))
    have HB := hid hB; have HAL := hid hal
    clear hB hS hO hg
    cases hok : okL zs with
    | false =>
      rw [hok] at HV
      have HNO := hid (rsR_no (l := l) (by
        cases hs : stkR l with
        | none => rfl
        | some z2 => have := HTX.out z2 hs; have h2 := (HW9.out z2 hs).2; subst h2; rw [hok] at this; cases this.1))
      clear hok hal
      go_wp2_with fail
      refine HV.out.mono ?_
      rintro e w2 ⟨rfl, hw⟩
      subst hw
      go_wp2_with fail
      exact bodyPost_ret (v := .tuple #[.slice none 0 0, .int .i64 5]) (by simp [results, Tryz.results11, go_sem]) rfl ⟨_, by rw [HNO.out], by rw [HNO.out]; exact OwnB.nil _ _ _ _, HB.out⟩
    | true =>
      rw [hok] at HV
      by_cases htx : txS zs = l
      · have HYES := hid (rsR_yes (HOF.out zs hok htx))
        have heq : ((⟨(txS zs).toArray⟩ : ByteArray).toList == t.toList) = true := by rw [Lib.toList_data, HDT.out, htx]; simp
        have heq2 : ((⟨(txS zs).toArray⟩ : ByteArray).toList != t.toList) = false := by rw [bne, heq]; rfl
        obtain ⟨T, hT⟩ : ∃ T, (⟨(txS zs).toArray⟩ : ByteArray) = T := ⟨_, rfl⟩
        rw [hT] at heq heq2 HST
        clear hok hal htx hT
        go_wp2_with fail
        refine HV.out.mono ?_
        rintro e w2 ⟨rfl, hw⟩
        subst hw
        go_wp2_with fail
        refine HST.out.mono ?_
        rintro e w3 ⟨rfl, hB3⟩
        have HB3 := hid hB3
        clear hB3
        go_wp2_with fail
        refine bodyPost_ret (v := .tuple #[.slice (some ⟨g, 0, none⟩) n cp, .int .i64 0]) (by simp [results, Tryz.results11, go_sem]) rfl ⟨_, by rw [HYES.out], ?_, HB.out.trans (HB3.out.mono HB.out.size)⟩
        rw [HYES.out]
        exact HOB.out.keep HB3.out
      · have HNO := hid (rsR_no (l := l) (by
          cases hs : stkR l with
          | none => rfl
          | some z2 => have := HTX.out z2 hs; have h2 := (HW9.out z2 hs).2; subst h2; exact absurd this.2.1 htx))
        have heq : ((⟨(txS zs).toArray⟩ : ByteArray).toList == t.toList) = false := by rw [Lib.toList_data, HDT.out]; simpa using htx
        have heq2 : ((⟨(txS zs).toArray⟩ : ByteArray).toList != t.toList) = true := by rw [bne, heq]; rfl
        have heq3 : ¬ (⟨(txS zs).toArray⟩ : ByteArray).toList = t.toList := by simpa using heq
        obtain ⟨T, hT⟩ : ∃ T, (⟨(txS zs).toArray⟩ : ByteArray) = T := ⟨_, rfl⟩
        rw [hT] at heq heq2 heq3 HST
        clear hok hal htx hT
        go_wp2_with fail
        refine HV.out.mono ?_
        rintro e w2 ⟨rfl, hw⟩
        subst hw
        go_wp2_with fail
        refine HST.out.mono ?_
        rintro e w3 ⟨rfl, hB3⟩
        have HB3 := hid hB3
        clear hB3
        go_wp2_with fail
        exact bodyPost_ret (v := .tuple #[.slice none 0 0, .int .i64 5]) (by simp [results, Tryz.results11, go_sem]) rfl ⟨_, by rw [HNO.out], by rw [HNO.out]; exact OwnB.nil _ _ _ _, HB.out.trans (HB3.out.mono HB.out.size)⟩
  · have HNO := hid (rsR_no (l := l) (by
      cases hs : stkR l with
      | none => rfl
      | some z2 => have h2 := (HW9.out z2 hs).1; rw [hal] at h2; cases h2))
    have HB := hid hB
    have HVN := hid (validStack_nil w1)
    clear hB hal
    go_wp2_with fail
    refine HVN.out.mono ?_
    rintro e w2 ⟨rfl, hw⟩
    subst hw
    go_wp2_with fail
    exact bodyPost_ret (v := .tuple #[.slice none 0 0, .int .i64 5]) (by simp [results, Tryz.results11, go_sem]) rfl ⟨_, by rw [HNO.out], by rw [HNO.out]; exact OwnB.nil _ _ _ _, HB.out⟩
end Go.Proofs.YtfifnngdmhdkiaaGreatDoor
