/- What a story keeps, and where it breaks: the program's lists. -/
import Derived.Test.YtilbpgcgjbblaaaKeyR
import Derived.Test.YtilbpgcgjbblaaaInts
import Derived.Test.YtilbpgcgjbblaaaTvals
import Derived.Test.YtilbpgcgjbblaaaEndsT
import Derived.Maps.AppendAt
namespace Go.Proofs.Ytilbpgcgjbblaaa
open Go.RowKit Go.Maps
set_option linter.unusedVariables false
set_option linter.unusedSimpArgs false
theorem Try.infoRdC : (Try.prog.info? 56).map (fun i => (i.zero, i.size, i.bytes)) = some (some (.agg #[.int .i64 0, .int .i64 0]), 2, 16) := by kernel_rfl
/-- the number ahead of the k-th, or -1 -/
def bfK (ks : List Int) (k : Nat) : Int := if k = 0 then -1 else lv ks (k - 1)
theorem bfK_zero (ks : List Int) : bfK ks 0 = -1 := rfl
theorem bfK_succ (ks : List Int) (k : Nat) : bfK ks (k + 1) = lv ks k := by simp [bfK]
theorem bfK_yes {ks : List Int} {n : Int} {k : Nat} (h : ∀ j, j < k → riseP ks n j = true) (a : bfK ks k < lv ks k) (b : lv ks k ≤ n - 1) : riseP ks n k = true := by
  unfold bfK at a
  by_cases c : k = 0
  · rw [if_pos c] at a
    exact riseP_yes (by omega) b (fun h => by omega)
  · rw [if_neg c] at a
    have := (riseP_out (h (k - 1) (by omega))).1
    exact riseP_yes (by omega) b (fun _ => a)
theorem bfK_no {ks : List Int} {n : Int} {k : Nat} (a : lv ks k ≤ bfK ks k ∨ n ≤ lv ks k) : riseP ks n k = false := riseP_no (fun ⟨h0, h1, h2⟩ => by
  unfold bfK at a
  by_cases c : k = 0
  · rw [if_pos c] at a; omega
  · rw [if_neg c] at a; have := h2 (by omega); omega)
set_option maxRecDepth 100000 in
set_option maxHeartbeats 1000000 in
theorem areInd_any (bk nk ck : Nat) (ks : List Int) (hnk : nk = ks.length) (a : Option Addr) (n cap : Nat) (hn9 : n ≤ 1048576) (w : World) (h : Lst w bk ks) :
    Calls Try.prog 58 #[.slice (some ⟨bk, 0, none⟩) nk ck, .slice a n cap] w fun e w' => e = .returned (.bool (riseB ks n)) ∧ w = w' := by
  have hC := hid h.2.1
  have hl := h.2.2.2
  rw [← hnk] at hl
  have hN := hid hnk
  clear h hnk
  go_enter Try.func58, Try.ntmps58
  go_wp2_with fail
  go_loopw [5, 10] (fun s5 s10 wr => ∃ k : Nat, k ≤ nk ∧ s10 = .int .i64 k ∧ s5 = .int .i64 (bfK ks k) ∧ (∀ j, j < k → riseP ks n j = true) ∧ w = wr) (fun _ i _ => nk - (intOf i).toNat)
  case atStart => exact ⟨0, Nat.zero_le _, rfl, rfl, fun j hj => by omega, rfl⟩
  case round =>
    obtain ⟨k, hk, rfl, rfl, hS, hw⟩ := hrel
    subst hw
    by_cases hlt : k < nk
    · have hx1 := hC.out k (by rw [← hN.out]; exact hlt)
      have hlt' : (k : Int) < (nk : Int) := by omega
      have hk0 : (0 : Int) ≤ (k : Int) := by omega
      have HNO := hid (fun e => show riseB ks n = false from allB_no (P := riseP ks n) (j := k) (by rw [← hN.out]; exact hlt) (bfK_no e))
      have HYES := hid (fun a b => bfK_yes hS a b)
      have HS := hid hS
      have HSU := hid (bfK_succ ks k)
      obtain ⟨p, hp⟩ : ∃ p, bfK ks k = p := ⟨_, rfl⟩
      obtain ⟨y, hy⟩ : ∃ y, lv ks k = y := ⟨_, rfl⟩
      rw [show ks[k]?.getD 0 = y from hy] at hx1
      rw [hp, hy] at HNO HYES
      rw [hp]
      rw [hy] at HSU
      clear hS hy hp
      by_cases e : y ≤ p
      · have HR := hid (HNO.out (.inl e))
        go_wp2_with fail
        go_ret
        exact ⟨by rw [HR.out]; first | rfl | simp, rfl⟩
      · by_cases e2 : (n : Int) ≤ y
        · have HR := hid (HNO.out (.inr e2))
          go_wp2_with fail
          go_ret
          exact ⟨by rw [HR.out]; first | rfl | simp, rfl⟩
        · have HR := hid (HYES.out (by omega) (by omega))
          go_wp2_with fail
          go_roundw
          case rel => exact ⟨k + 1, by omega, by go_num, by rw [HSU.out], fun j hj => by
            rcases Nat.lt_or_ge j k with c | c
            · exact HS.out j c
            · obtain rfl : j = k := by omega
              exact HR.out, by first | rfl | trivial⟩
          case measure => simp [intOf]; omega
    · obtain rfl : k = nk := by omega
      have HR := hid (show riseB ks n = true from allB_yes (fun j hj => hS j (by rw [hN.out]; exact hj)))
      clear hS
      go_wp2_with fail
      go_ret
      exact ⟨by rw [HR.out]; first | rfl | simp, rfl⟩
/-- the readings at the first k places of a list -/
def gth (js : List (Int × Int)) (ks : List Int) (k : Nat) : List (Int × Int) := (ks.take k).map fun i => (rd js i.toNat, rv js i.toNat)
theorem gth_len (js : List (Int × Int)) (ks : List Int) (k : Nat) (h : k ≤ ks.length) : (gth js ks k).length = k := by simp [gth]; omega
theorem gth_snoc {js : List (Int × Int)} {ks : List Int} {k C : Nat} (hk : k < ks.length) (e : lv ks k = (C : Int)) : gth js ks (k + 1) = gth js ks k ++ [(rd js C, rv js C)] := by
  have e1 : ks.take (k + 1) = ks.take k ++ [lv ks k] := by
    rw [List.take_add_one, List.getElem?_eq_getElem hk]; unfold lv; rw [List.getElem?_eq_getElem hk]; rfl
  unfold gth
  rw [e1, e]
  simp
theorem gth_at {js : List (Int × Int)} {ks : List Int} {k j : Nat} (hk : k ≤ ks.length) (hj : j < k) : rd (gth js ks k) j = rd js (kN ks j) ∧ rv (gth js ks k) j = rv js (kN ks j) := by
  have h : (gth js ks k)[j]? = some (rd js (kN ks j), rv js (kN ks j)) := by
    unfold gth kN lv
    rw [List.getElem?_map, List.getElem?_take, if_pos hj, List.getElem?_eq_getElem (by omega)]
    simp
  constructor
  · show (((gth js ks k)[j]?).getD (0, 0)).1 = _
    rw [h]; rfl
  · show (((gth js ks k)[j]?).getD (0, 0)).2 = _
    rw [h]; rfl
theorem tvals_snocC (js : List (Int × Int)) (d v : Int) : tvals (js ++ [(d, v)]) = tvals js ++ [.int .i64 d, .int .i64 v] := by
  have old : ∀ j, j < js.length → rd (js ++ [(d, v)]) j = rd js j ∧ rv (js ++ [(d, v)]) j = rv js j := fun j h => by
    unfold rd rv; rw [List.getElem?_append_left h]; exact ⟨rfl, rfl⟩
  have new : rd (js ++ [(d, v)]) js.length = d ∧ rv (js ++ [(d, v)]) js.length = v := by simp [rd, rv]
  apply List.ext_getElem?
  intro i
  have L : (tvals (js ++ [(d, v)])).length = js.length * 2 + 2 := by rw [tvals_len]; simp; omega
  by_cases h : i < js.length * 2
  · rw [List.getElem?_append_left (by rw [tvals_len]; exact h)]
    have e : i = i / 2 * 2 ∨ i = i / 2 * 2 + 1 := by omega
    have q := tvals_get (js ++ [(d, v)]) [] (i / 2) (by simp; omega)
    have p := tvals_get js [] (i / 2) (by omega)
    simp only [List.append_nil] at p q
    rw [(old (i / 2) (by omega)).1, (old (i / 2) (by omega)).2] at q
    rcases e with e | e
    · rw [e, p.1, q.1]
    · rw [e, p.2, q.2]
  · rw [List.getElem?_append_right (by rw [tvals_len]; omega), tvals_len]
    have q := tvals_get (js ++ [(d, v)]) [] js.length (by simp)
    simp only [List.append_nil] at q
    rw [new.1, new.2] at q
    by_cases e1 : i = js.length * 2
    · subst e1; rw [q.1]; simp
    · by_cases e2 : i = js.length * 2 + 1
      · subst e2; rw [q.2]; simp
      · rw [List.getElem?_eq_none (by rw [L]; omega), List.getElem?_eq_none (by simp; omega)]
def YB (bk nk ck bb nb cb : Nat) (c : Int) : List Value := [.slice (some ⟨bk, 0, none⟩) nk ck, .slice (some ⟨bb, 0, none⟩) nb cb, .int .i64 c]
set_option maxRecDepth 100000 in
set_option maxHeartbeats 2000000 in
theorem kept_any (bk nk ck bb nb cb : Nat) (ks : List Int) (c : Int) (hnk : nk = ks.length) (b n cap : Nat) (js : List (Int × Int)) (hn : n = js.length) (hn9 : n ≤ 40) (hr : riseB ks n = true) (w : World) (hK : Lst w bk ks) (hR : Rst w b js) :
    Calls Try.prog 42 #[.agg #[.slice (some ⟨bk, 0, none⟩) nk ck, .slice (some ⟨bb, 0, none⟩) nb cb, .int .i64 c], .slice (some ⟨b, 0, none⟩) n cap] w fun e w' => ∃ v, e = .returned v ∧ w'.ownsRow (w.heap.size + 1) 56 2 v nk (tvals (gth js ks nk)) ∧ Below w.heap.size w w' := by
  obtain ⟨i0, hi0, iz0, iz1, iz2⟩ := info_parts Try.infoRdC
  have rX := Row.new w 44 [.slice (some ⟨bk, 0, none⟩) nk ck, .slice (some ⟨bb, 0, none⟩) nb cb, .int .i64 c]
  have bV : Below w.heap.size w (w.alloc (.cells #[.slice (some ⟨bk, 0, none⟩) nk ck, .slice (some ⟨bb, 0, none⟩) nb cb, .int .i64 c] 44)) := (Below.refl _ _).alloc (Nat.le_refl _) _
  obtain ⟨V, hV⟩ : ∃ V, V = w.alloc (.cells #[.slice (some ⟨bk, 0, none⟩) nk ck, .slice (some ⟨bb, 0, none⟩) nb cb, .int .i64 c] 44) := ⟨_, rfl⟩
  obtain ⟨X, hX⟩ : ∃ F, w.heap.size = F := ⟨_, rfl⟩
  have sV : V.heap.size = X + 1 := by rw [hV]; simp [hX]
  rw [← hV] at rX bV
  rw [hX] at rX bV ⊢
  have CK := hid (fun j (hj : j < nk) => hK.2.1 j (by rw [← hnk]; exact hj))
  have CR := hid (fun j (hj : j < n) => hR.2.1 j (by rw [← hn]; exact hj))
  have HLT := hid (show bk < X ∧ b < X from by have := hK.1; have := hR.1; omega)
  have hlk : nk ≤ 40 := by have := rise_len hr (by omega); omega
  have HNK := hid hnk; have HN := hid hn; have HRS := hid hr; have HV := hid hV; have SV := hid sV; have BV := hid bV; have HX := hid hX
  have x0 := rX.cell 0
  simp only [List.getElem?_cons_zero, List.getElem?_cons_succ] at x0
  clear hK hR hnk hn hr hV sV bV rX
  go_enter Try.func42, Try.ntmps42
  go_upto_region 2 with fail
  rw [← HV.out]
  try rw [HX.out]
  go_wp2_with fail
  clear x0
  go_loopw [5, 11] (fun s5 s11 wr => ∃ (k : Nat) (v : Value), k ≤ nk ∧ s11 = .int .i64 k ∧ v = s5 ∧ wr.ownsRow (X + 1) 56 2 v k (tvals (gth js ks k)) ∧ Below X w wr ∧ X + 1 ≤ wr.heap.size) (fun _ i _ => nk - (intOf i).toNat)
  case atStart => exact ⟨0, _, Nat.zero_le _, rfl, rfl, ⟨rfl, .inl ⟨rfl, rfl⟩⟩, BV.out, by rw [SV.out]; omega⟩
  case round =>
    obtain ⟨k, v, hk, rfl, rfl, hO, hB, hZ⟩ := hrel
    by_cases hlt : k < nk
    · have hlt' : (k : Int) < (nk : Int) := by omega
      have hk0 : (0 : Int) ≤ (k : Int) := by omega
      have o1 := riseP_out (allB_out HRS.out k (by rw [← HNK.out]; exact hlt))
      obtain ⟨C, hC⟩ : ∃ C : Nat, lv ks k = (C : Int) := ⟨(lv ks k).toNat, by omega⟩
      have hCn : C < n := by omega
      have hC0 : (0 : Int) ≤ (C : Int) := by omega
      have hC1 : (C : Int) < (n : Int) := by omega
      have ck := (hB.cell (p := ⟨bk, k, none⟩) HLT.out.1).trans (CK.out k hlt)
      rw [show ks[k]?.getD 0 = (C : Int) from hC] at ck
      have cr := CR.out C hCn
      have cr0 := (hB.cell (p := ⟨b, C * 2, none⟩) HLT.out.2).trans cr.1
      have cr1 := (hB.cell (p := ⟨b, C * 2 + 1, none⟩) HLT.out.2).trans cr.2
      have HG := hid (gth_snoc (js := js) (ks := ks) (k := k) (by rw [← HNK.out]; exact hlt) hC)
      obtain ⟨d, hd⟩ : ∃ d, rd js C = d := ⟨_, rfl⟩
      obtain ⟨u, hu⟩ : ∃ d, rv js C = d := ⟨_, rfl⟩
      rw [hd] at cr0 HG
      rw [hu] at cr1 HG
      have hO5 := hO.alloc (.cells #[.int .i64 d, .int .i64 u] 56)
      have news := Row.new wr 56 [.int .i64 d, .int .i64 u]
      have nc := hid (show ∀ j u', ([.int .i64 d, .int .i64 u] : List Value)[j]? = some u' → (wr.alloc (.cells #[.int .i64 d, .int .i64 u] 56)).cell? ((⟨wr.heap.size, 0, none⟩ : Addr).add j) = some u' from fun j u' hj => by
        rw [show (⟨wr.heap.size, 0, none⟩ : Addr).add j = ⟨wr.heap.size, j, none⟩ from by unfold Addr.add; split <;> simp_all]
        exact (news.cell j).trans hj)
      have HONE := hid (show ∀ u' ∈ ([.int .i64 d, .int .i64 u] : List Value), u'.oneCell' = true from by intro u' hu; simp at hu; rcases hu with rfl | rfl <;> rfl)
      have HO5 := hid hO5
      have HK40 := hid (show k < 40 by omega)
      have HBW := hid (show X + 1 ≤ (wr.alloc (.cells #[.int .i64 d, .int .i64 u] 56)).heap.size by simp; omega)
      have HB5 := hid (show Below X w (wr.alloc (.cells #[.int .i64 d, .int .i64 u] 56)) from hB.alloc (by omega) _)
      clear hO hO5 news hB hZ o1 cr hd hu hC hCn
      go_wp2_with (at_builtin; refine wpList_append_own_at _ rfl _ _ 29 rfl (X + 1) 56 i0 (.agg #[.int .i64 0, .int .i64 0]) 2 16 Try.underlying29 hi0 iz0 iz1 iz2 rfl (by decide) _ _ _ rfl HO5.out ⟨wr.heap.size, 0, none⟩ 1 1 ([.int .i64 d, .int .i64 u] : List Value) rfl rfl nc.out HONE.out (by have := HK40.out; unfold maxLen; omega) (by have := HK40.out; omega) HBW.out ?_; rintro v' w7 hown' hgrow - -; have OWN := hid hown'; have GRW := hid hgrow; clear hown' hgrow)
      have OW := OWN.out
      rw [← tvals_snocC, ← HG.out] at OW
      have HOW := hid OW
      have HBE := hid (HB5.out.grown GRW.out (by have := HBW.out; omega) (fun kk e => by have := (HO5.out.lt kk e).1; omega))
      have HZ7 := hid (show X + 1 ≤ w7.heap.size from Nat.le_trans HBW.out GRW.out.size)
      clear OW
      go_wp2_with fail
      go_roundw
      case rel => exact ⟨k + 1, v', by omega, by go_num, rfl, HOW.out, HBE.out, HZ7.out⟩
      case measure => simp [intOf]; omega
    · have hge : ¬ (k : Int) < (nk : Int) := by omega
      have hkk : k = nk := by omega
      rw [hkk] at hO
      have HO := hid hO; have HB := hid hB
      clear hO hB hZ hkk hlt
      go_wp2_with fail
      go_ret
      exact ⟨_, rfl, HO.out, HB.out⟩
/-- the breaks of a story, in a map -/
def BkG (w : World) (js : List (Int × Int)) (bs : List Int) (nb : Nat) (e : Ending) (w' : World) : Prop := ∃ M, e = .returned (.map (some (w.heap.size + 1))) ∧ RM w' (w.heap.size + 1) nb M ∧ BkM js bs nb M ∧ Below w.heap.size w w'
set_option maxRecDepth 100000 in
set_option maxHeartbeats 2000000 in
theorem broken_any (bk nk ck bb nb cb : Nat) (bs : List Int) (c : Int) (hnb : nb = bs.length) (b n cap : Nat) (js : List (Int × Int)) (hn : n = js.length) (hn9 : n ≤ 40) (hr : riseB bs n = true) (hd : ∀ i j, i < js.length → j < js.length → rd js i = rd js j → i = j) (h64 : ∀ i, i < js.length → I64 (rd js i) ∧ I64 (rv js i)) (w : World) (hK : Lst w bb bs) (hR : Rst w b js) :
    Calls Try.prog 40 #[.agg #[.slice (some ⟨bk, 0, none⟩) nk ck, .slice (some ⟨bb, 0, none⟩) nb cb, .int .i64 c], .slice (some ⟨b, 0, none⟩) n cap] w (BkG w js bs nb) := by
  have rX := Row.new w 44 [.slice (some ⟨bk, 0, none⟩) nk ck, .slice (some ⟨bb, 0, none⟩) nb cb, .int .i64 c]
  have bV : Below w.heap.size w (w.alloc (.cells #[.slice (some ⟨bk, 0, none⟩) nk ck, .slice (some ⟨bb, 0, none⟩) nb cb, .int .i64 c] 44)) := (Below.refl _ _).alloc (Nat.le_refl _) _
  have M0 := World.ownsMap_made (H := Unit) (w.alloc (.cells #[.slice (some ⟨bk, 0, none⟩) nk ck, .slice (some ⟨bb, 0, none⟩) nb cb, .int .i64 c] 44)) Try.prog 56 (plainElem Try.prog 4)
  have b2 := bV.alloc (by simp) (.map #[] 0)
  have rX2 := rX.alloc (.map #[] 0)
  obtain ⟨X, hX⟩ : ∃ F, w.heap.size = F := ⟨_, rfl⟩
  have s1 : (w.alloc (.cells #[.slice (some ⟨bk, 0, none⟩) nk ck, .slice (some ⟨bb, 0, none⟩) nb cb, .int .i64 c] 44)).heap.size = X + 1 := by simp [hX]
  rw [s1] at M0
  obtain ⟨V, hV⟩ : ∃ V, V = (w.alloc (.cells #[.slice (some ⟨bk, 0, none⟩) nk ck, .slice (some ⟨bb, 0, none⟩) nb cb, .int .i64 c] 44)).alloc (.map #[] 0) := ⟨_, rfl⟩
  rw [← hV] at M0 b2 rX2
  rw [hX] at rX2 b2
  have CB := hid (fun j (hj : j < nb) => hK.2.1 j (by rw [← hnb]; exact hj))
  have CR := hid (fun j (hj : j < n) => hR.2.1 j (by rw [← hn]; exact hj))
  have HLT := hid (show bb < X ∧ b < X from by have := hK.1; have := hR.1; omega)
  have hlk : nb ≤ 40 := by have := rise_len hr (by omega); omega
  have HNB := hid hnb; have HN := hid hn; have HRS := hid hr; have HV := hid hV; have BV := hid b2; have HX := hid hX; have HM0 := hid M0; have HD := hid hd; have H64 := hid h64
  have x1 := rX2.cell 1
  simp only [List.getElem?_cons_zero, List.getElem?_cons_succ] at x1
  have MK : ∀ w, Sem.run Try.prog (Instr.makeMap 75 none) w = .ok (.map (some w.heap.size)) (w.alloc (.map #[] 0)) := fun _ => rfl
  have S1 := hid s1
  clear hK hR hnb hn hr hV bV rX rX2 b2 M0 hd h64 s1
  go_enter Try.func40, Try.ntmps40
  go_upto_region 2 with fail
  rw [← HV.out]
  go_wp2_with fail
  clear x1
  go_loopw [12] (fun s12 wr => ∃ (k : Nat) (M : DataW Unit), k ≤ nb ∧ s12 = .int .i64 k ∧ RM wr (X + 1) k M ∧ BkM js bs k M ∧ Below X w wr) (fun i _ => nb - (intOf i).toNat)
  case atStart => exact ⟨0, _, Nat.zero_le _, rfl, HM0.out, BkM.start _ _, BV.out⟩
  case round =>
    obtain ⟨k, M, hk, rfl, hM, hB0, hB⟩ := hrel
    by_cases hlt : k < nb
    · have hlt' : (k : Int) < (nb : Int) := by omega
      have hk0 : (0 : Int) ≤ (k : Int) := by omega
      have o1 := riseP_out (allB_out HRS.out k (by rw [← HNB.out]; exact hlt))
      obtain ⟨C, hC⟩ : ∃ C : Nat, lv bs k = (C : Int) := ⟨(lv bs k).toNat, by omega⟩
      have hCn : C < n := by omega
      have hC0 : (0 : Int) ≤ (C : Int) := by omega
      have hC1 : (C : Int) < (n : Int) := by omega
      have cb := (hB.cell (p := ⟨bb, k, none⟩) HLT.out.1).trans (CB.out k hlt)
      rw [show bs[k]?.getD 0 = (C : Int) from hC] at cb
      have cr := CR.out C hCn
      have cr0 := (hB.cell (p := ⟨b, C * 2, none⟩) HLT.out.2).trans cr.1
      have cr1 := (hB.cell (p := ⟨b, C * 2 + 1, none⟩) HLT.out.2).trans cr.2
      have h6 := H64.out C (by rw [← HN.out]; exact hCn)
      obtain ⟨l, hkl⟩ := keyRg h6.1 h6.2
      have HST := hid (hB0.step (by rw [← HNB.out]; exact hlt) (show C < js.length by rw [← HN.out]; exact hCn) hC HD.out hkl)
      obtain ⟨u0, hrun, hM1, hG1⟩ := hM.put (by omega) hkl true
      have HM1 := hid hM1
      have HB1 := hid (show Below X w u0 from hB.grown hG1 (by have := hM.lt; omega) (fun kk e => by cases e; omega))
      unfold rgVal at hrun
      obtain ⟨d, hd⟩ : ∃ d, rd js C = d := ⟨_, rfl⟩
      obtain ⟨u, hu⟩ : ∃ d, rv js C = d := ⟨_, rfl⟩
      rw [hd] at cr0 hrun
      rw [hu] at cr1 hrun
      clear hM hB0 hB o1 cr hd hu hC hCn h6 hkl hM1 hG1
      go_wp2_with fail
      go_roundw
      case rel => exact ⟨k + 1, _, by omega, by go_num, HM1.out, HST.out, HB1.out⟩
      case measure => simp [intOf]; omega
    · have hge : ¬ (k : Int) < (nb : Int) := by omega
      have hkk : k = nb := by omega
      have HO := hid (And.intro hM (And.intro hB0 hB))
      clear hM hB0 hB hlt
      go_wp2_with fail
      go_ret
      rw [hkk] at HO
      unfold BkG
      rw [HX.out]
      exact ⟨M, by first | rfl | (rw [S1.out]), HO.out.1, HO.out.2.1, HO.out.2.2⟩
end Go.Proofs.Ytilbpgcgjbblaaa
