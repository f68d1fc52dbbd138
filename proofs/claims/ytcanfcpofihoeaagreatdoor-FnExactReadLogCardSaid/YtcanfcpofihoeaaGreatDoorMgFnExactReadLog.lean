/- Texts of this seat, merged: RgI OwnI Marks LawsRLG Hsh. -/
import Derived.OwnWalk
import Derived.Deep.QuietTactic
import Derived.WalkSmall
import Derived.ChangeAt
import Derived.SevenTiedAt
import Derived.ChangeSame
import Derived.ChangeVars
import Derived.LaidLaws
import Derived.LaidHandle
import Derived.Stop.Joined
import Derived.LaidMore
import Derived.HandedShaped
import Derived.ChangeMaps5
import Derived.Test.YtcanfcpofihoeaaGreatDoorMgC

namespace Go.Proofs.YtcanfcpofihoeaaGreatDoor
open Go.RowKit Go.Shelf
set_option linter.unusedVariables false
set_option linter.unusedSimpArgs false
set_option maxRecDepth 100000 in
set_option maxHeartbeats 2000000 in
theorem implReadLog_any (b nS cap : Nat) (zs : List Int) (hnS : nS = zs.length) (t : ByteArray) (ht : t.size ≤ 1048576) (w : World) (hS : Stk w b zs) {tS tR : TypeId} {pS pR : Value} {m : Int} (hL : LW w tS pS tR pR m) : Calls Tryz.prog 6 #[.slice (some ⟨b, 0, none⟩) nS cap, .string t] w (RgR (rlR zs t.data.toList) w) := by
  have HOK := hid (validStack_any b nS cap zs w hS hnS)
  cases ho : okL zs with
  | false =>
    rw [ho] at HOK
    unfold rlR
    rw [ho]
    clear ho hS hnS hL ht
    go_enter Tryz.func6, Tryz.ntmps6
    go_wp2_with fail
    with_reducible refine HOK.out.mono ?_
    rintro e v0 ⟨rfl, hw⟩
    subst hw
    go_wp2_with fail
    exact bodyPost_ret (v := .tuple #[.slice none 0 0, .int .i64 1]) (by simp [results, Tryz.results6, go_sem]) rfl ⟨_, rfl, OwnG.nil _ _ _ _, Below.refl _ _⟩
  | true =>
  rw [ho] at HOK
  have hE : rlR zs t.data.toList = rdR (lgW zs) (okG zs) t.data.toList := by unfold rlR; rw [ho]; rfl
  rw [hE]
  clear hE
  have HRL := hid (implReadLines_any b nS cap zs hnS ho t ht w hS hL)
  have HLW := hid (fun W (h : Below w.heap.size w W) => hL.below h (Nat.le_refl _))
  have HBAD := hid (fun p (hp : p ∈ wLs t) hr => (lined_lg zs ho).bad (t := t) hp hr)
  have HNOT := hid (fun (xs : List (Int × Int)) (hx : (wLs t).map (lgF zs) = xs.map some) hn => (lined_lg zs ho).not (t := t) hx hn)
  have HGOOD := hid (fun (xs : List (Int × Int)) (hx : (wLs t).map (lgF zs) = xs.map some) hn => (lined_lg zs ho).good (t := t) hx hn)
  have HLEN := hid (fun (xs : List (Int × Int)) (hx : (wLs t).map (lgF zs) = xs.map some) => show xs.length ≤ 1048576 from by
    have := congrArg List.length hx
    simp only [List.length_map] at this
    have h2 := (wLn_len 41 t (by omega)).1
    unfold wLs at this
    rw [List.length_dropLast] at this
    omega)
  have hdt : t.toList = t.data.toList := Lib.toList_data t
  obtain ⟨R, hR⟩ : ∃ R, rdR (lgW zs) (okG zs) t.data.toList = R := ⟨_, rfl⟩
  rw [hR] at HBAD HNOT HGOOD ⊢
  obtain ⟨l, hl⟩ : ∃ l, t.data.toList = l := ⟨_, rfl⟩
  rw [hl] at HNOT HGOOD hdt
  have HDT := hid hdt
  unfold RlQ at HRL
  have HSS := hid (fun W (h : Below w.heap.size w W) => hS.below h hS.1)
  have HNS := hid hnS; have HOO := hid ho
  clear hl hR hL ht hdt hS hnS ho
  go_enter Tryz.func6, Tryz.ntmps6
  go_wp2_with fail
  with_reducible refine HOK.out.mono ?_
  rintro e v0 ⟨rfl, hw⟩
  subst hw
  go_wp2_with fail
  with_reducible refine HRL.out.mono ?_
  rintro e w1 ⟨v, ok, rfl, hB, hc⟩
  have HB := hid hB
  clear hB
  rcases hc with ⟨rfl, xs, hx, hO⟩ | ⟨rfl, p, hp, hr⟩
  · have HX := hid hx
    have HO := hid (OwnG.of_owns hO (HLEN.out xs hx))
    have HTT := hid (implLGT_own b nS cap zs HNS.out HOO.out _ v xs w1 (HSS.out w1 HB.out) HO.out (HLW.out w1 HB.out))
    clear hO hx
    by_cases htx : lgR zs xs = l
    · have HG := hid (HGOOD.out xs HX.out htx)
      have heq : ((⟨(lgR zs xs).toArray⟩ : ByteArray).toList == t.toList) = true := by rw [Lib.toList_data, HDT.out, htx]; simp
      have heq2 : ((⟨(lgR zs xs).toArray⟩ : ByteArray).toList != t.toList) = false := by rw [bne, heq]; rfl
      obtain ⟨T, hT⟩ : ∃ T, (⟨(lgR zs xs).toArray⟩ : ByteArray) = T := ⟨_, rfl⟩
      rw [hT] at heq heq2 HTT
      clear htx hT
      go_wp2_with fail
      with_reducible refine HTT.out.mono ?_
      rintro e w3 ⟨rfl, hB3⟩
      have HB3 := hid hB3
      clear hB3
      go_wp2_with fail
      refine bodyPost_ret (v := .tuple #[v, .int .i64 0]) (by simp [results, Tryz.results6, go_sem]) rfl ⟨_, by rw [HG.out], ?_, HB.out.trans (HB3.out.mono HB.out.size)⟩
      rw [HG.out]
      exact HO.out.keep HB3.out
    · have HG := hid (HNOT.out xs HX.out htx)
      have heq : ((⟨(lgR zs xs).toArray⟩ : ByteArray).toList == t.toList) = false := by rw [Lib.toList_data, HDT.out]; simpa using htx
      have heq2 : ((⟨(lgR zs xs).toArray⟩ : ByteArray).toList != t.toList) = true := by rw [bne, heq]; rfl
      have heq3 : ¬ (⟨(lgR zs xs).toArray⟩ : ByteArray).toList = t.toList := by simpa using heq
      obtain ⟨T, hT⟩ : ∃ T, (⟨(lgR zs xs).toArray⟩ : ByteArray) = T := ⟨_, rfl⟩
      rw [hT] at heq heq2 heq3 HTT
      clear htx hT
      go_wp2_with fail
      with_reducible refine HTT.out.mono ?_
      rintro e w3 ⟨rfl, hB3⟩
      have HB3 := hid hB3
      clear hB3
      go_wp2_with fail
      exact bodyPost_ret (v := .tuple #[.slice none 0 0, .int .i64 5]) (by simp [results, Tryz.results6, go_sem]) rfl ⟨_, by rw [HG.out], by rw [HG.out]; exact OwnG.nil _ _ _ _, HB.out.trans (HB3.out.mono HB.out.size)⟩
  · have HG := hid (HBAD.out p hp hr)
    clear hp hr
    go_wp2_with fail
    exact bodyPost_ret (v := .tuple #[.slice none 0 0, .int .i64 5]) (by simp [results, Tryz.results6, go_sem]) rfl ⟨_, by rw [HG.out], by rw [HG.out]; exact OwnG.nil _ _ _ _, HB.out⟩
end Go.Proofs.YtcanfcpofihoeaaGreatDoor

namespace Go.Proofs.YtcanfcpofihoeaaGreatDoor
open Go.RowKit
/-- v is a slice of the numbers zs, in a block of its own from base on -/
def OwnI (w : World) (base : Nat) (v : Value) (zs : List Int) : Prop :=
  ∃ a cap, v = .slice a zs.length cap ∧ zs.length ≤ 1099511627776 ∧ (zs = [] ∨ ∃ g rest, a = some ⟨g, 0, none⟩ ∧ base ≤ g ∧ Row w g 2 (zs.map (Value.int .i64) ++ rest))
theorem OwnI.of_owns {w : World} {base n : Nat} {v : Value} {zs : List Int} (h : w.ownsRow base 2 1 v n (zs.map (Value.int .i64))) (hl : zs.length ≤ 1099511627776) : OwnI w base v zs := by
  have hn : n = zs.length := by have := h.1; simpa using this.symm
  rcases h.2 with ⟨rfl, h0⟩ | ⟨g, cap, cur, rfl, h2, h3, h4, h5, h6, h7⟩
  · have : zs = [] := List.length_eq_zero_iff.1 (by omega)
    subst this
    exact ⟨none, 0, rfl, by simp, .inl rfl⟩
  · refine ⟨some ⟨g, 0, none⟩, cap, by rw [hn], hl, .inr ⟨g, cur.toList.drop (n * 1), rfl, h2, ?_⟩⟩
    unfold Row
    rw [h3, ← h7, List.take_append_drop]
theorem OwnI.nil (w : World) (base : Nat) (a : Option Addr) (cap : Nat) : OwnI w base (.slice a 0 cap) [] := ⟨a, cap, rfl, by simp, .inl rfl⟩
theorem OwnI.keep {w w' : World} {base : Nat} {v : Value} {zs : List Int} (h : OwnI w base v zs) (hb : Below w.heap.size w w') : OwnI w' base v zs := by
  obtain ⟨a, cap, h1, h2, h3⟩ := h
  refine ⟨a, cap, h1, h2, ?_⟩
  rcases h3 with h0 | ⟨g, rest, e, hg, hr⟩
  · exact .inl h0
  · exact .inr ⟨g, rest, e, hg, hr.below hb hr.lt⟩
/-- what is written from another base on leaves it, if its block lies below -/
theorem OwnI.low {w w' : World} {base k : Nat} {v : Value} {zs : List Int} (h : OwnI w base v zs) {w2 : World} (hw : Below w.heap.size w w2) (hk : w.heap.size ≤ k) (hb : Below k w2 w') : OwnI w' base v zs := by
  obtain ⟨a, cap, h1, h2, h3⟩ := h
  refine ⟨a, cap, h1, h2, ?_⟩
  rcases h3 with h0 | ⟨g, rest, e, hg, hr⟩
  · exact .inl h0
  · exact .inr ⟨g, rest, e, hg, (hr.below hw hr.lt).below hb (Nat.lt_of_lt_of_le hr.lt hk)⟩
theorem OwnI.cell {w : World} {g : Nat} {zs : List Int} {rest : List Value} (h : Row w g 2 (zs.map (Value.int .i64) ++ rest)) (j : Nat) (hj : j < zs.length) : w.cell? ⟨g, j, none⟩ = some (.int .i64 (zs[j]?.getD 0)) := by
  rw [h.cell, List.getElem?_append_left (by simpa using hj)]
  simp [hj]
/-- the marks that are written -/
def marksI (k0 : Int) (n : Nat) : List Int := (List.range n).map fun (i : Nat) => k0 + (i : Int)
theorem marksI_len (k0 : Int) (n : Nat) : (marksI k0 n).length = n := by simp [marksI]
theorem marksI_get (k0 : Int) (n j : Nat) (h : j < n) : (marksI k0 n)[j]?.getD 0 = k0 + (j : Int) := by simp [marksI, h]
/-- k of n cells are marked -/
def halfI (k0 : Int) (zs : List Int) (k : Nat) : List Int := (marksI k0 k) ++ zs.drop k
theorem halfI_len (k0 : Int) (zs : List Int) (k : Nat) (h : k ≤ zs.length) : (halfI k0 zs k).length = zs.length := by simp [halfI, marksI]; omega
theorem halfI_set (k0 : Int) (zs : List Int) (rest : List Value) (k : Nat) (h : k < zs.length) : (((halfI k0 zs k).map (Value.int .i64)) ++ rest).set k (.int .i64 (k0 + (k : Int))) = ((halfI k0 zs (k + 1)).map (Value.int .i64)) ++ rest := by
  have hl := halfI_len k0 zs k (by omega)
  rw [List.set_append_left _ _ (by rw [List.length_map, hl]; exact h)]
  congr 1
  apply List.ext_getElem?
  intro j
  simp only [halfI, marksI, List.getElem?_set, List.getElem?_map, List.length_map, List.length_append, List.length_range, List.length_drop, List.getElem?_append, List.getElem?_drop]
  by_cases hj : k = j
  · subst hj
    simp [h]
    omega
  · rw [if_neg hj]
    by_cases h2 : j < k
    · simp [h2, show j < k + 1 from by omega]
    · simp only [h2, show ¬ j < k + 1 from by omega, if_false]
      rw [show k + (j - k) = k + 1 + (j - (k + 1)) from by omega]
theorem halfI_all (k0 : Int) (zs : List Int) : halfI k0 zs zs.length = marksI k0 zs.length := by simp [halfI]
end Go.Proofs.YtcanfcpofihoeaaGreatDoor

namespace Go.Proofs.YtcanfcpofihoeaaGreatDoor
open Go.RowKit
set_option linter.unusedVariables false
set_option linter.unusedSimpArgs false
set_option maxHeartbeats 400000 in
/-- laws.toStack at an argument with elements: a new block holds them. -/
theorem toStackR_some (b off len cap : Nat) (zs : List Int) (hl : len ≤ 1048576) (hz : len ≤ zs.length) (hb : ∀ z ∈ zs, 0 ≤ z ∧ z ≤ 255) (w : World) (hbs : b < w.heap.size) (hc : ∀ j, j < len → w.cell? ⟨b, off + j, none⟩ = some (.int .u8 (zs[j]?.getD 0))) :
    Calls Tryz.prog 5 #[.slice (some ⟨b, off, none⟩) len cap] w fun e w' => e = .returned (.slice (some ⟨w.heap.size, 0, none⟩) len len) ∧ Below w.heap.size w w' ∧ Row w' w.heap.size 5 ((zs.take len).map (Value.int .u8)) ∧ w.heap.size < w'.heap.size := by
  obtain ⟨i0, hi, hz0, hz1, hz2⟩ := info_parts Tryz.infoU8
  go_enter Tryz.func5, Tryz.ntmps5
  go_wp2_with (at_make; refine wpList_make_full _ rfl _ _ 26 rfl w.heap.size 5 i0 (.int .u8 0) 1 Tryz.underlying26 hi hz0 hz1 .i64 .i64 _ _ len rfl rfl rfl rfl (by rw [hz2]; omega) (by unfold maxLen; omega) (Nat.le_refl _) ?_; intro w1 hown hgrow)
  have hrow := Row.of_owns hown rfl
  rw [show (madeCells (Value.int .u8 0).cells (len * 1)).toList = cpy zs len 0 from by rw [cpy_zero, Nat.mul_one]; exact toList_madeCells_one _ _] at hrow
  have hB1 : Below w.heap.size w w1 := (Below.refl _ w).grown hgrow (Nat.le_refl _) (fun k e => by cases e)
  clear hown hgrow
  go_wp2
  go_loopw [4] (fun i wr => ∃ k : Nat, k ≤ len ∧ i = .int .i64 k ∧ Row wr w.heap.size 5 (cpy zs len k) ∧ Below w.heap.size w wr) (fun i _ => len - (intOf i).toNat)
  case atStart => exact ⟨0, Nat.zero_le _, rfl, hrow, hB1⟩
  case round =>
    clear hrow hB1
    obtain ⟨k, hk, rfl, hrow, hB⟩ := hrel
    by_cases hlt : k < len
    · have hcx : wr.cell? ⟨b, off + k, none⟩ = some (.int .u8 (zs[k]?.getD 0)) := (hB.cell (p := ⟨b, off + k, none⟩) hbs).trans (hc k hlt)
      have hfz := hrow.frozen k
      have hlen := cpy_len zs len k hk hz
      obtain ⟨old, hold⟩ : ∃ v, wr.cell? ⟨w.heap.size, k, none⟩ = some v := ⟨_, (hrow.cell k).trans (List.getElem?_eq_getElem (by omega))⟩
      have hR2 := hrow.set k (.int .u8 (zs[k]?.getD 0))
      rw [cpy_set zs len k hlt hz] at hR2
      have hB2 : Below w.heap.size w (wr.setCell ⟨w.heap.size, k, none⟩ (.int .u8 (zs[k]?.getD 0))) := hB.setCell (p := ⟨w.heap.size, k, none⟩) (Nat.le_refl _) _
      clear hlen
      go_wp2
      go_roundw
      case rel => exact ⟨k + 1, by omega, by go_num, hR2, hB2⟩
      case measure => simp [intOf]; omega
    · obtain rfl : k = len := by omega
      rw [cpy_all] at hrow
      go_wp2
      go_ret
      exact ⟨rfl, hB, hrow, hrow.lt⟩
set_option maxHeartbeats 400000 in
/-- .. at an argument without elements: a new block without cells. -/
theorem toStackR_none (a : Option Addr) (cap : Nat) (w : World) :
    Calls Tryz.prog 5 #[.slice a 0 cap] w fun e w' => e = .returned (.slice (some ⟨w.heap.size, 0, none⟩) 0 0) ∧ Below w.heap.size w w' ∧ Row w' w.heap.size 5 (([] : List Int).map (Value.int .u8)) ∧ w.heap.size < w'.heap.size := by
  obtain ⟨i0, hi, hz0, hz1, hz2⟩ := info_parts Tryz.infoU8
  go_enter Tryz.func5, Tryz.ntmps5
  go_wp2_with (at_make; refine wpList_make_full _ rfl _ _ 26 rfl w.heap.size 5 i0 (.int .u8 0) 1 Tryz.underlying26 hi hz0 hz1 .i64 .i64 _ _ 0 rfl rfl rfl rfl (by rw [hz2]; omega) (by unfold maxLen; omega) (Nat.le_refl _) ?_; intro w1 hown hgrow)
  have hrow := Row.of_owns hown rfl
  have hB : Below w.heap.size w w1 := (Below.refl _ w).grown hgrow (Nat.le_refl _) (fun k e => by cases e)
  clear hown hgrow
  go_wp2
  refine wp_loop_rounds 1 ?_
  rw [rounds_succ]
  go_wp2
  go_ret
  exact ⟨rfl, hB, by simpa [madeCells] using hrow, hrow.lt⟩

/-- laws.toStack at whatever argument. -/
theorem toStackR_any (a : Option Addr) (len cap : Nat) (zs : List Int) (w : World) (h : InB w a len zs) (hl : len ≤ 1048576) :
    Calls Tryz.prog 5 #[.slice a len cap] w fun e w' => e = .returned (.slice (some ⟨w.heap.size, 0, none⟩) len len) ∧ Below w.heap.size w w' ∧ Row w' w.heap.size 5 (zs.map (Value.int .u8)) ∧ w.heap.size < w'.heap.size := by
  by_cases h0 : len = 0
  · have hz := h.1
    subst h0
    obtain rfl : zs = [] := List.length_eq_zero_iff.1 hz
    exact toStackR_none a cap w
  · rcases h.2.2 with h0' | ⟨b, off, rfl, hb, hc⟩
    · exact absurd h0' h0
    · have := toStackR_some b off len cap zs hl (by rw [h.1]; exact Nat.le_refl _) h.2.1 w hb hc
      rwa [List.take_of_length_le (by rw [h.1]; exact Nat.le_refl _)] at this

theorem Row.rst {w : World} {g : Nat} {js : List (Int × Int)} (h : Row w g 44 (rcp js js.length js.length)) (hl : js.length ≤ 1048576) : Rst w g js :=
  ⟨h.lt, fun j hj => ⟨(h.cell _).trans (rcp_get js js.length j hj).1, (h.cell _).trans (rcp_get js js.length j hj).2⟩, hl⟩
/-- one block alone has been written over -/
def OnlyB (g : Nat) (w w' : World) : Prop := w'.heap.size = w.heap.size ∧ (∀ q, q ≠ g → w'.heap[q]? = w.heap[q]?) ∧ Below g w w'
theorem OnlyB.refl (g : Nat) (w : World) : OnlyB g w w := ⟨rfl, fun _ _ => rfl, Below.refl _ _⟩
theorem OnlyB.set {g : Nat} {w w' : World} (h : OnlyB g w w') (j : Nat) (u : Value) : OnlyB g w (w'.setCell ⟨g, j, none⟩ u) :=
  ⟨by simpa using h.1, fun q hq => (Below.heap_setCell w' ⟨g, j, none⟩ u q (fun e => hq e)).trans (h.2.1 q hq), h.2.2.setCell (p := ⟨g, j, none⟩) (Nat.le_refl _) _⟩
theorem OnlyB.row {g q : Nat} {w w' : World} {e : TypeId} {xs : List Value} (h : OnlyB g w w') (r : Row w q e xs) (hq : q ≠ g) : Row w' q e xs := (h.2.1 q hq).trans r
theorem OwnI.only {g base : Nat} {w w' : World} {v : Value} {zs : List Int} (h : OwnI w base v zs) (o : OnlyB g w w') (hg : g < base) : OwnI w' base v zs := by
  obtain ⟨a, cap, h1, h2, h3⟩ := h
  refine ⟨a, cap, h1, h2, ?_⟩
  rcases h3 with h0 | ⟨q, rest, e, hq, hr⟩
  · exact .inl h0
  · exact .inr ⟨q, rest, e, hq, o.row hr (by omega)⟩
theorem OwnI.later {w w' : World} {base : Nat} {v : Value} {zs : List Int} (h : OwnI w base v zs) (hb : Below w.heap.size w w') : OwnI w' base v zs := h.low (Below.refl _ _) (Nat.le_refl _) hb
set_option maxHeartbeats 1000000 in
theorem markStack_any (g n cap : Nat) (xs : List Value) (hx : xs.length = n) (hn : n ≤ 1048576) (w : World) (hR : Row w g 5 xs) :
    Calls Tryz.prog 9 #[.slice (some ⟨g, 0, none⟩) n cap, .int .i64 1] w fun e w' => e = .returned (.int .i64 (1 + (n : Int))) ∧ OnlyB g w w' := by
  go_enter Tryz.func9, Tryz.ntmps9
  go_wp2_with fail
  go_loopw [1, 5] (fun m i wr => ∃ (k : Nat) (ys : List Value), k ≤ n ∧ i = .int .i64 k ∧ m = .int .i64 (1 + (k : Int)) ∧ ys.length = n ∧ Row wr g 5 ys ∧ OnlyB g w wr) (fun _ i _ => n - (intOf i).toNat)
  case atStart => exact ⟨0, xs, Nat.zero_le _, rfl, rfl, hx, hR, OnlyB.refl _ _⟩
  case round =>
    clear hR hx
    obtain ⟨k, ys, hk, rfl, rfl, hy, hrow, hO⟩ := hrel
    by_cases hlt : k < n
    · have hlt' : (k : Int) < (n : Int) := by omega
      have hk0 : (0 : Int) ≤ (k : Int) := by omega
      have hfz := hrow.frozen k
      obtain ⟨old, hold⟩ : ∃ u, wr.cell? ⟨g, k, none⟩ = some u := ⟨_, (hrow.cell k).trans (List.getElem?_eq_getElem (by omega))⟩
      have R3 := hid (fun u => hrow.set k u)
      have O3 := hid (fun u => hO.set k u)
      have HY := hid hy
      clear hrow hO hy
      go_wp2_with fail
      go_roundw
      case rel => exact ⟨k + 1, _, by omega, by go_num, by first | go_num | (congr 1; done) | (congr 1; omega), by rw [List.length_set]; exact HY.out, R3.out _, O3.out _⟩
      case measure => simp [intOf]; omega
    · obtain rfl : k = n := by omega
      have O3 := hid hO
      clear hrow hO hy
      go_wp2_with fail
      go_ret
      exact ⟨rfl, O3.out⟩
set_option maxHeartbeats 1000000 in
theorem markReads_any (g n cap : Nat) (xs : List Value) (hx : xs.length = n * 2) (hn : n ≤ 1048576) (k0 : Int) (hk0 : 0 ≤ k0 ∧ k0 ≤ 10000000) (w : World) (hR : Row w g 44 xs) :
    Calls Tryz.prog 10 #[.slice (some ⟨g, 0, none⟩) n cap, .int .i64 k0] w fun e w' => e = .returned (.int .i64 (k0 + 2 * (n : Int))) ∧ OnlyB g w w' := by
  go_enter Tryz.func10, Tryz.ntmps10
  go_wp2_with fail
  go_loopw [1, 5] (fun m i wr => ∃ (k : Nat) (ys : List Value) (z : Int), k ≤ n ∧ i = .int .i64 k ∧ m = .int .i64 z ∧ z = k0 + 2 * (k : Int) ∧ ys.length = n * 2 ∧ Row wr g 44 ys ∧ OnlyB g w wr) (fun _ i _ => n - (intOf i).toNat)
  case atStart => exact ⟨0, xs, k0, Nat.zero_le _, rfl, rfl, by simp, hx, hR, OnlyB.refl _ _⟩
  case round =>
    clear hR hx
    obtain ⟨k, ys, z, hk, rfl, rfl, hz, hy, hrow, hO⟩ := hrel
    by_cases hlt : k < n
    · have hlt' : (k : Int) < (n : Int) := by omega
      have hk1 : (0 : Int) ≤ (k : Int) := by omega
      have zb : 0 ≤ z ∧ z ≤ 20000000 := by omega
      have f0 := hrow.frozen (k * 2)
      have f1 := hrow.frozen (k * 2 + 1)
      obtain ⟨o0, h0⟩ : ∃ v, wr.cell? ⟨g, k * 2, none⟩ = some v := ⟨_, (hrow.cell (k * 2)).trans (List.getElem?_eq_getElem (by omega))⟩
      obtain ⟨o1, h1⟩ : ∃ v, wr.cell? ⟨g, k * 2 + 1, none⟩ = some v := ⟨_, (hrow.cell (k * 2 + 1)).trans (List.getElem?_eq_getElem (by omega))⟩
      have R3 := hid (fun u v => (hrow.set (k * 2) u).set (k * 2 + 1) v)
      have O3 := hid (fun u v => (hO.set (k * 2) u).set (k * 2 + 1) v)
      have HY := hid hy
      have HZ := hid hz
      have t1 : IntKind.i64.wrap (z + 1) = z + 1 := IntWalk.i64_in _ (by omega)
      have t2 : IntKind.i64.wrap (z + 1 + 1) = z + 1 + 1 := IntWalk.i64_in _ (by omega)
      clear hrow hO hy hz
      go_wp2_with fail
      go_roundw
      case rel => exact ⟨k + 1, _, z + 1 + 1, by omega, by go_num, rfl, by have := HZ.out; omega, by rw [List.length_set, List.length_set]; exact HY.out, R3.out _ _, O3.out _ _⟩
      case measure => simp [intOf]; omega
    · obtain rfl : k = n := by omega
      have O3 := hid hO
      have HZ := hid hz
      clear hrow hO hy hz
      go_wp2_with fail
      go_ret
      exact ⟨by rw [← HZ.out]; rfl, O3.out⟩
end Go.Proofs.YtcanfcpofihoeaaGreatDoor

namespace Go.Proofs.YtcanfcpofihoeaaGreatDoor
open Go.RowKit
set_option linter.unusedVariables false
set_option linter.unusedSimpArgs false
theorem OwnG.only {g base : Nat} {w w' : World} {v : Value} {js : List (Int × Int)} (h : OwnG w base v js) (o : OnlyB g w w') (hg : g < base) : OwnG w' base v js := by
  obtain ⟨a, cap, h1, h2, h3⟩ := h
  refine ⟨a, cap, h1, h2, ?_⟩
  rcases h3 with h0 | ⟨q, rest, e, hq, hr⟩
  · exact .inl h0
  · exact .inr ⟨q, rest, e, hq, o.row hr (by omega)⟩
set_option maxRecDepth 100000 in
set_option maxHeartbeats 4000000 in
theorem law_FnExactReadLog (a : Option Addr) (len cap : Nat) (zs : List Int) (t : ByteArray) (w : World) (h : InB w a len zs) (hT : t.size ≤ maxLen) (tS : TypeId) (pS : Value) (tR : TypeId) (pR : Value) (m : Int) (hL : LW w tS pS tR pR m) :
    Calls Tryz.prog 3 #[.slice a len cap, .string t] w fun e w' => e = .returned (.bool true) ∧ Below w.heap.size w w' := by
  by_cases hbig : 1048576 < len
  · have hb : (1048576 : Int) < (len : Int) := by omega
    clear hL hT h
    go_enter Tryz.func3, Tryz.ntmps3
    go_wp2_with fail
    go_ret
    exact ⟨rfl, Below.refl _ _⟩
  have hb0 : ¬ (1048576 : Int) < (len : Int) := by omega
  by_cases hbig2 : 1048576 < t.size
  · have hb : (1048576 : Int) < (t.size : Int) := by omega
    clear hL hT h
    go_enter Tryz.func3, Tryz.ntmps3
    go_wp2_with fail
    go_ret
    exact ⟨rfl, Below.refl _ _⟩
  have hle : t.size ≤ 1048576 := by omega
  have hb : ¬ (1048576 : Int) < (t.size : Int) := by omega
  have hle2 : len ≤ 1048576 := by omega
  have hI := hid h; have HLW := hid hL
  have HN := hid h.1.symm
  have HS := hid (fun W b (hS : Stk W b zs) => specReadLog_any b len len zs HN.out t hle W hS)
  have HM := hid (fun W b (hS : Stk W b zs) (h : LW W tS pS tR pR m) => implReadLog_any b len len zs HN.out t hle W hS h)
  have HSR := hid (fun (b : Nat) (w1 : World) (r : Row w1 b 5 (zs.map (Value.int .u8))) => r.stk hI.out.2.1 (by rw [← HN.out]; exact hle2))
  obtain ⟨⟨E, c⟩, hR⟩ : ∃ r, rlR zs t.data.toList = r := ⟨_, rfl⟩
  rw [hR] at HS HM
  have fc : (c != c) = false := by simp
  have fE : ((1 + 2 * (E.length : Int)) != (1 + 2 * (E.length : Int))) = false := by simp
  have f3 : (0 : Int) ≤ (1 + 2 * (E.length : Int)) := by omega
  have f4 : (0 : Int) ≤ 1 + (len : Int) := by omega
  have q : Below w.heap.size w w := Below.refl _ _
  obtain ⟨n, hn⟩ : ∃ n, t.size = n := ⟨_, rfl⟩
  rw [hn] at hb
  clear h hL hT hbig hbig2 hle hR
  go_enter Tryz.func3, Tryz.ntmps3
  go_wp2_with fail
  with_reducible refine (toStack_any a len cap zs _ (hI.out.below q (Nat.le_refl _)) hle2).mono ?_
  rintro e w1 ⟨rfl, hB1, hS1, _⟩
  replace q := q.trans (hB1.mono q.size)
  clear hB1
  go_wp2_with fail
  with_reducible refine (HS.out w1 _ hS1).mono ?_
  rintro e V3 ⟨v3, rfl, O3, hB⟩
  replace q := q.trans (hB.mono q.size)
  clear hB hS1
  have c3b : Below V3.heap.size V3 V3 := Below.refl _ _
  have HQ3 := hid q.size
  go_wp2_with fail
  with_reducible refine (toStackR_any a len cap zs _ (hI.out.below q (Nat.le_refl _)) hle2).mono ?_
  rintro e V4 ⟨rfl, hB, X4, g4⟩
  replace q := q.trans (hB.mono q.size)
  replace c3b := c3b.trans (hB.mono c3b.size)
  clear hB
  have HQ4 := hid c3b.size
  have HX := hid (show V3.heap.size < V4.heap.size from g4)
  clear g4
  go_wp2_with fail
  with_reducible refine (HM.out V4 _ (HSR.out _ _ X4) (HLW.out.below q (Nat.le_refl _))).mono ?_
  rintro e V5 ⟨v6, rfl, G6, hB⟩
  replace q := q.trans (hB.mono q.size)
  replace c3b := c3b.trans (hB.mono c3b.size)
  replace X4 := X4.below hB X4.lt
  have HQ5 := hid hB.size
  clear hB
  go_wp2_with fail
  with_reducible refine (eqG_own _ _ v6 v3 E _ G6 (O3.keep c3b)).mono ?_
  rintro e w6 ⟨rfl, hB⟩
  replace q := q.trans (hB.mono q.size)
  replace c3b := c3b.trans (hB.mono c3b.size)
  replace X4 := X4.below hB X4.lt
  replace G6 := G6.keep hB
  clear hB
  go_wp2_with fail
  with_reducible refine (toStack_any a len cap zs _ (hI.out.below q (Nat.le_refl _)) hle2).mono ?_
  rintro e w7 ⟨rfl, hB, hS7, _⟩
  replace q := q.trans (hB.mono q.size)
  replace c3b := c3b.trans (hB.mono c3b.size)
  replace X4 := X4.below hB X4.lt
  replace G6 := G6.keep hB
  clear hB
  go_wp2_with fail
  with_reducible refine (eqStack_same _ _ len len len zs w7 (HSR.out _ _ X4) hS7 HN.out).mono ?_
  rintro e w8 ⟨rfl, hB⟩
  replace q := q.trans (hB.mono q.size)
  replace c3b := c3b.trans (hB.mono c3b.size)
  replace X4 := X4.below hB X4.lt
  replace G6 := G6.keep hB
  clear hB hS7
  go_wp2_with fail
  with_reducible refine (markStack_any _ len len _ (by rw [List.length_map]; exact HN.out.symm) hle2 _ X4).mono ?_
  rintro e w9 ⟨rfl, h9⟩
  replace q := q.trans (h9.2.2.mono HQ3.out)
  replace c3b := c3b.trans h9.2.2
  replace G6 := G6.only h9 HX.out
  clear h9 X4
  go_wp2_with fail
  with_reducible refine (eqG_own _ _ v6 v3 E _ G6 (O3.keep c3b)).mono ?_
  rintro e w10 ⟨rfl, hB⟩
  replace q := q.trans (hB.mono q.size)
  replace c3b := c3b.trans (hB.mono c3b.size)
  replace G6 := G6.keep hB
  clear hB
  go_wp2_with fail
  with_reducible refine (markG_own V4.heap.size v6 E _ G6).mono ?_
  rintro e w11 ⟨rfl, M6, hB, hS11⟩
  replace q := q.trans (hB.mono (Nat.le_trans HQ3.out HQ4.out))
  replace c3b := c3b.trans (hB.mono HQ4.out)
  clear hB hS11 G6
  go_wp2_with fail
  with_reducible refine (heldG_own V4.heap.size v6 E.length _ M6).mono ?_
  rintro e1 w12 ⟨rfl, dd, hdd⟩
  have hB : Below w11.heap.size w11 w12 := by rw [hdd]; exact below_drewN (Below.refl _ _) _
  replace q := q.trans (hB.mono q.size)
  replace c3b := c3b.trans (hB.mono c3b.size)
  replace M6 := M6.keep hB
  clear hdd hB
  go_wp2_with fail
  with_reducible refine (toStack_any a len cap zs _ (hI.out.below q (Nat.le_refl _)) hle2).mono ?_
  rintro e1 w13 ⟨rfl, hB, hS13, _⟩
  replace q := q.trans (hB.mono q.size)
  replace c3b := c3b.trans (hB.mono c3b.size)
  replace M6 := M6.keep hB
  clear hB
  go_wp2_with fail
  with_reducible refine (HM.out w13 _ hS13 (HLW.out.below q (Nat.le_refl _))).mono ?_
  rintro e1 w14 ⟨v9, rfl, H9, hB⟩
  replace q := q.trans (hB.mono q.size)
  replace c3b := c3b.trans (hB.mono c3b.size)
  replace M6 := M6.keep hB
  clear hB hS13
  go_wp2_with fail
  with_reducible refine (eqG_own _ _ v9 v3 E _ H9 (O3.keep c3b)).mono ?_
  rintro e1 w15 ⟨rfl, hB⟩
  replace q := q.trans (hB.mono q.size)
  replace M6 := M6.keep hB
  clear hB
  go_wp2_with fail
  with_reducible refine (heldG_own V4.heap.size v6 E.length _ M6).mono ?_
  rintro e1 w16 ⟨rfl, dd, hdd⟩
  have hB : Below w15.heap.size w15 w16 := by rw [hdd]; exact below_drewN (Below.refl _ _) _
  replace q := q.trans (hB.mono q.size)
  clear hdd hB
  go_wp2_with fail
  go_ret
  exact ⟨rfl, q⟩
end Go.Proofs.YtcanfcpofihoeaaGreatDoor

namespace Go.Proofs.YtcanfcpofihoeaaGreatDoor
open Go.ChangeShapes Go.WideShapes Go.ChangeAt Go.RowKit
theorem handed_sh {H : Type} {enc : TypeId × Value → H} {a : Assume} {C : Checked} {os : Os} {f : FuncId} {fn : Func} {s : ChangeSpec} {conds : List PathCond} {ap fr ho ag : Bool} {X : World → Array Value → Prop}
    (hX : ∀ (w w' : World) (args : Array Value), w.heap = w'.heap → X w args → X w' args)
    (own : ownKnob C.prog.godebug = none) (started : os.Started) (noInit : C.prog.inits.idxOf? f = none) (hfn : C.prog.funcs[f]? = some fn)
    (wit : ∃ (w : World) (tape : Tape) (i : Input), w.os = os ∧ (w.forCall tape i).Shaped C.prog ∧ i.vars = [] ∧ Input.okWide C.prog (w.forCall tape i) .any w.heap.size f i ∧
      ((s.pre enc C.prog fn conds ap (w.forCall tape i).memory i.args ∧ X (w.forCall tape i).memory i.args) ∧ sizedMet enc C.prog fn (OpenSpec.ofChange s) ap (w.forCall tape i).memory i.args) ∧ a.holds C.prog (lone (Frame.enter C.prog f i.args .normal) [] (w.forCall tape i)))
    (main : ∀ (W : World) (base : Nat) (args : Array Value) (ds gs : List (DataW H)) (before : List MemPlace),
      (∀ (j : Nat) t v, fn.params[j]? = some t → args[j]? = some v → Value.okWide C.prog W .any base t v) →
      DataW.Whole enc C.prog fn.params.toList s.vars ap W args.toList ds gs before → X W args → W.ShapedOpen C.prog →
      Calls C.prog f args W fun e W' => ∃ v, e = .returned v ∧ s.post enc C.prog fn ap fr ho ag W args v W') :
    ReturnsInHanded a C os f .any (fun w args => (s.pre enc C.prog fn conds ap w args ∧ X w args) ∧ sizedMet enc C.prog fn (OpenSpec.ofChange s) ap w args) (s.post enc C.prog fn ap fr ho ag) := by
  refine returnsInHanded_of_calls own started noInit wit fun w tape i _ hsh _ hok hpre _ => ?_
  obtain ⟨_, _, _, fn2, h2, _, _, _, _, hv⟩ := hok
  cases Option.some.inj (h2.symm.trans hfn)
  obtain ⟨⟨⟨ds, gs, bf, hw, _⟩, hx⟩, _⟩ := hpre
  refine (main (w.forCall tape i) w.heap.size i.args ds gs bf hv (DataW.Whole.of_heap (w' := w.forCall tape i) (by rfl) hw) (hX _ _ _ (by rfl) hx) hsh).mono fun e W' h => ?_
  obtain ⟨v, he, hp⟩ := h
  subst he
  exact ChangeSpec.post_blind hp
end Go.Proofs.YtcanfcpofihoeaaGreatDoor
