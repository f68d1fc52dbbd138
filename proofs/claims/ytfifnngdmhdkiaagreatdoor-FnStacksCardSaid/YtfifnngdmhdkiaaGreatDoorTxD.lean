/- DigitsText; the program's. -/
import Derived.Test.YtfifnngdmhdkiaaGreatDoorTxC
import Derived.Test.YtfifnngdmhdkiaaGreatDoorMgP
namespace Go.Proofs.YtfifnngdmhdkiaaGreatDoor
open Go.RowKit Go.Shelf
set_option linter.unusedVariables false
set_option linter.unusedSimpArgs false
theorem padZ_len (wd : Nat) (l : List UInt8) : (padZ wd l).length = max wd l.length := by
  simp [padZ]; omega
theorem dec2 (n : Nat) (h : n < 100) : (Lib.decDigits n).length = if n < 10 then 1 else 2 := by
  rw [Lib.decDigits]
  by_cases h1 : n < 10
  · rw [dif_pos h1, if_pos h1]; rfl
  · rw [dif_neg h1, if_neg h1, Lib.decDigits, dif_pos (by omega)]; rfl
theorem itoa2 (z : Int) (h : 0 ≤ z ∧ z ≤ 99) : (Lib.itoa z).length ≤ 2 := by
  obtain ⟨n, rfl⟩ : ∃ n : Nat, z = (n : Int) := ⟨z.toNat, by omega⟩
  rw [itoa_nat, dec2 n (by omega)]
  split <;> omega
theorem fmt_int (z : Int) (h : 0 ≤ z ∧ z ≤ 99) (w : World) : Calls Tryz.prog 60 #[.int .i64 z, .int .i64 10] w fun e w' => e = .returned (.string ⟨(Lib.itoa z).toArray⟩) ∧ Below w.heap.size w w' := by
  obtain ⟨n, rfl⟩ : ∃ n : Nat, z = (n : Int) := ⟨z.toNat, by omega⟩
  exact fmt_small n (by omega) w
theorem tail_len (m : Nat) : ∀ (l : List (List UInt8)), (∀ x ∈ l, x.length ≤ m) → (Lib.joinTail [58] l).length ≤ l.length * (m + 1)
  | [], _ => by simp [Lib.joinTail]
  | x :: r, h => by
    have h1 := tail_len m r (fun y hy => h y (by simp [hy]))
    have h2 := h x (by simp)
    simp only [Lib.joinTail, List.map_cons, List.flatten_cons, List.length_append, List.length_cons, List.length_nil, Nat.add_mul] at h1 ⊢
    omega
theorem join_len (m : Nat) (l : List (List UInt8)) (h : ∀ x ∈ l, x.length ≤ m) : (Lib.join l [58]).length ≤ l.length * (m + 1) := by
  cases l with
  | nil => simp [Lib.join_nil]
  | cons x r =>
    rw [Lib.join_cons, List.length_append]
    have h1 := tail_len m r (fun y hy => h y (by simp [hy]))
    have h2 := h x (by simp)
    simp only [List.length_cons, Nat.add_mul]
    omega
theorem txT_len (zs : List Int) (wd : Nat → Nat) (m : Nat) (h : ∀ k, k < zs.length → (txP zs wd k).length ≤ m) : (txT zs wd).length ≤ zs.length * (m + 1) := by
  have := join_len m ((txL zs wd (List.finRange zs.length)).map (·.data.toList)) (fun x hx => by
    simp only [txL, List.map_map, List.mem_map] at hx
    obtain ⟨y, _, rfl⟩ := hx
    have hy := y.2
    exact h _ (by omega))
  simpa [txT, txL] using this
/-- the width of a wheel's digits -/
def wdD (zs : List Int) (k : Nat) : Nat := (padZ 1 (Lib.itoa (ug zs k - 1))).length
def txD (zs ds : List Int) : List UInt8 := if okV zs ds then txT (ds.take zs.length) (wdD zs) else []
theorem txD_no {zs ds : List Int} (h : okV zs ds = false) : txD zs ds = [] := by simp [txD, h]
theorem txD_yes {zs ds : List Int} (h : okV zs ds = true) : txD zs ds = txT (ds.take zs.length) (wdD zs) := by simp [txD, h]
theorem wdD_le (zs : List Int) (k : Nat) (h : 2 ≤ ug zs k ∧ ug zs k ≤ 100) : wdD zs k ≤ 2 := by
  unfold wdD
  rw [padZ_len]
  have := itoa2 (ug zs k - 1) (by omega)
  omega
set_option maxHeartbeats 1000000 in
theorem dtw_any (bS n cap cb k : Nat) (zs : List Int) (hk : k < n) (hn : n = zs.length) (hz : 2 ≤ ug zs k ∧ ug zs k ≤ 100) (w : World) (hS : Stk w bS zs) (hc : w.cell? ⟨cb, 0, none⟩ = some (.slice (some ⟨bS, 0, none⟩) n cap)) :
    Calls Tryz.prog 41 #[.int .i64 (k : Int), .pointer (some ⟨cb, 0, none⟩)] w fun e w' => e = .returned (.int .i64 ((wdD zs k : Nat) : Int)) ∧ Below w.heap.size w w' := by
  have x0 : w.cell? ⟨bS, k, none⟩ = some (.int .u8 (ug zs k)) := hS.2.1 k (by omega)
  unfold wdD
  obtain ⟨z, hzz⟩ : ∃ z, ug zs k = z := ⟨_, rfl⟩
  rw [hzz] at x0 hz ⊢
  have t1 : IntKind.u8.wrap (z - 1) = z - 1 := by unfold IntKind.wrap; simp [IntKind.bits, IntKind.signed]; omega
  have HX := hid (decimal8_any (z - 1) (by omega) 1 (by omega) (by have := itoa2 (z - 1) (by omega); omega) w (fmt_int (z - 1) (by omega) w))
  obtain ⟨s, hs⟩ : ∃ s, padZ 1 (Lib.itoa (z - 1)) = s := ⟨_, rfl⟩
  rw [hs] at HX ⊢
  have hLe : (⟨s.toArray⟩ : ByteArray).size = s.length := by simp [ByteArray.size]
  obtain ⟨L, hL⟩ : ∃ L, s.length = L := ⟨_, rfl⟩
  rw [hL] at hLe ⊢
  have k0 : (0 : Int) ≤ (k : Int) := by omega
  have k1 : (k : Int) < (n : Int) := by omega
  clear hs hzz hz hS hn hk hL
  go_enter Tryz.func41, Tryz.ntmps41
  go_wp2_with fail
  refine HX.out.mono ?_
  rintro e w1 ⟨rfl, hB1⟩
  have B1 := hid hB1
  clear hB1
  go_wp2_with fail
  go_ret
  exact ⟨rfl, B1.out⟩
theorem Row.stkD {w : World} {g : Nat} {t : TypeId} {d0 d1 d2 d3 d4 d5 d6 d7 : Int} (h : Row w g t [.int .u8 d0, .int .u8 d1, .int .u8 d2, .int .u8 d3, .int .u8 d4, .int .u8 d5, .int .u8 d6, .int .u8 d7]) (ho : Oct d0 d1 d2 d3 d4 d5 d6 d7) (n : Nat) (hn : n ≤ 8) : Stk w g (List.take n [d0, d1, d2, d3, d4, d5, d6, d7]) := by
  refine ⟨h.lt, fun j hj => ?_, fun z hz => ?_, by simp; omega⟩
  · rw [h.cell, List.getElem?_take]
    have hj8 : j < 8 := by simp at hj; omega
    have hjn : j < n := by simp at hj; omega
    rw [if_pos hjn]
    match j, hj8 with
    | 0, _ => rfl
    | 1, _ => rfl
    | 2, _ => rfl
    | 3, _ => rfl
    | 4, _ => rfl
    | 5, _ => rfl
    | 6, _ => rfl
    | 7, _ => rfl
  · have := List.mem_of_mem_take hz
    obtain ⟨h0, h1, h2, h3, h4, h5, h6, h7⟩ := ho
    simp only [List.mem_cons, List.not_mem_nil, or_false] at this
    rcases this with rfl | rfl | rfl | rfl | rfl | rfl | rfl | rfl <;> assumption
theorem ug_take (ds : List Int) (n k : Nat) (h : k < n) : ug (ds.take n) k = ds[k]?.getD 0 := by
  unfold ug
  rw [List.getElem?_take, if_pos h]
set_option maxRecDepth 100000 in
set_option maxHeartbeats 4000000 in
theorem implDT_any (b n cap : Nat) (zs : List Int) (d0 d1 d2 d3 d4 d5 d6 d7 : Int) (w : World) (h : Stk w b zs) (hn : n = zs.length) (ho : Oct d0 d1 d2 d3 d4 d5 d6 d7) :
    Calls Tryz.prog 14 #[.slice (some ⟨b, 0, none⟩) n cap, .agg #[.int .u8 d0, .int .u8 d1, .int .u8 d2, .int .u8 d3, .int .u8 d4, .int .u8 d5, .int .u8 d6, .int .u8 d7]] w fun e w' => e = .returned (.string ⟨(txD zs [d0, d1, d2, d3, d4, d5, d6, d7]).toArray⟩) ∧ Below w.heap.size w w' := by
  have N := hid hn; have HO := hid ho
  have hbl := h.1
  obtain ⟨V, hV⟩ : ∃ V, V = (w.alloc (.cells #[.slice (some ⟨b, 0, none⟩) n cap] 24)).alloc (.cells #[.int .u8 d0, .int .u8 d1, .int .u8 d2, .int .u8 d3, .int .u8 d4, .int .u8 d5, .int .u8 d6, .int .u8 d7] 30) := ⟨_, rfl⟩
  have bV : Below w.heap.size w V := by rw [hV]; exact ((Below.refl w.heap.size w).alloc (Nat.le_refl _) _).alloc (by simp) _
  have sV : V.heap.size = w.heap.size + 1 + 1 := by rw [hV]; simp
  have rS : Row V w.heap.size 24 [.slice (some ⟨b, 0, none⟩) n cap] := by rw [hV]; exact (Row.new w _ _).alloc _
  have rD : Row V (w.heap.size + 1) 30 [.int .u8 d0, .int .u8 d1, .int .u8 d2, .int .u8 d3, .int .u8 d4, .int .u8 d5, .int .u8 d6, .int .u8 d7] := by
    have h := Row.new (w.alloc (.cells #[.slice (some ⟨b, 0, none⟩) n cap] 24)) 30 [.int .u8 d0, .int .u8 d1, .int .u8 d2, .int .u8 d3, .int .u8 d4, .int .u8 d5, .int .u8 d6, .int .u8 d7]
    simp only [World.size_alloc] at h
    rw [hV]; exact h
  have HV := hid hV
  have HVL := hid (validDigits_any b n cap zs d0 d1 d2 d3 d4 d5 d6 d7 V (h.below bV hbl) hn ho)
  have cS := rS.cell 0
  have c0 := rD.cell 0; have c1 := rD.cell 1; have c2 := rD.cell 2; have c3 := rD.cell 3; have c4 := rD.cell 4; have c5 := rD.cell 5; have c6 := rD.cell 6; have c7 := rD.cell 7
  simp only [List.getElem?_cons_zero, List.getElem?_cons_succ] at cS c0 c1 c2 c3 c4 c5 c6 c7
  have RS := hid rS; have RD := hid rD; have BV := hid bV; have H := hid h
  rw [hV] at cS c0 c1 c2 c3 c4 c5 c6 c7
  clear h hn ho rS rD bV hV
  cases hv : okV zs [d0, d1, d2, d3, d4, d5, d6, d7] with
  | false =>
    rw [txD_no hv]
    rw [hv] at HVL
    clear hv
    go_enter Tryz.func14, Tryz.ntmps14
    go_wp2_with (go_at_call 18; rw [← HV.out]; refine HVL.out.mono ?_; rintro e w1 ⟨rfl, hB1⟩)
    go_ret
    exact ⟨rfl, BV.out.trans (hB1.mono (by omega))⟩
  | true =>
    rw [txD_yes hv, ← N.out]
    rw [hv] at HVL
    obtain ⟨hv1, hv2⟩ := okV_out hv
    obtain ⟨h1n, h8, hin, _, _⟩ := okL_out hv1
    have hlt := okD_lt hv2 h8 (fun j hj => (oct_bd HO.out j hj).1)
    rw [← N.out] at h1n h8 hin hlt
    have HI := hid hin; have HL := hid hlt
    have n0 : (0 : Int) ≤ (n : Int) := by omega
    have n8 : (n : Int) ≤ 8 := by omega
    have hdk : ∀ k, k < n → 0 ≤ ug (List.take n [d0, d1, d2, d3, d4, d5, d6, d7]) k ∧ ug (List.take n [d0, d1, d2, d3, d4, d5, d6, d7]) k ≤ 99 := fun k hk => by
      rw [ug_take _ _ _ hk]
      have a := HI.out k hk; have b := HL.out k hk; have c := oct_bd HO.out k (by omega)
      omega
    have hP : ∀ k, k < n → (txP (List.take n [d0, d1, d2, d3, d4, d5, d6, d7]) (wdD zs) k).length ≤ 2 := fun k hk => by
      unfold txP
      rw [padZ_len]
      have a := itoa2 _ (hdk k hk); have b := wdD_le zs k (by have := HI.out k hk; exact this)
      omega
    have hll : (List.take n [d0, d1, d2, d3, d4, d5, d6, d7]).length = n := by simp; omega
    have hTL := txT_len (List.take n [d0, d1, d2, d3, d4, d5, d6, d7]) (wdD zs) 2 (by rw [hll]; exact hP)
    rw [hll] at hTL
    have HT := hid (fun (w1 : World) (hB1 : Below V.heap.size V w1) => textLFD_any w.heap.size (w.heap.size + 1) n 8 (List.take n [d0, d1, d2, d3, d4, d5, d6, d7]) hll.symm h1n (wdD zs) w1 (Row.stkD (RD.out.below hB1 RD.out.lt) HO.out n h8)
      (fun k W hk hB => dtw_any b n cap w.heap.size k zs hk N.out (HI.out k hk) W ((H.out.below BV.out hbl).below (hB1.trans (hB.mono hB1.size)) (by omega)) (by have h9 := (RS.out.below (hB1.trans (hB.mono hB1.size)) RS.out.lt).cell 0; simpa using h9))
      (fun k W hk hB => decimal8_any _ (by have := hdk k hk; omega) _ (by have := wdD_le zs k (HI.out k hk); omega) (by have := itoa2 _ (hdk k hk); omega) W (fmt_int _ (hdk k hk) W))
      (by omega))
    obtain ⟨T, hT⟩ : ∃ T, txT (List.take n [d0, d1, d2, d3, d4, d5, d6, d7]) (wdD zs) = T := ⟨_, rfl⟩
    rw [hT] at HT ⊢
    clear hv hv1 hv2 hin hlt hdk hP hll hTL hT
    go_enter Tryz.func14, Tryz.ntmps14
    go_wp2_with (first | (go_at_call 18; rw [← HV.out]; refine HVL.out.mono ?_; rintro e w1 ⟨rfl, hB1⟩; have q1 := RS.out.below hB1 RS.out.lt; have cq := q1.cell 0; simp only [List.getElem?_cons_zero] at cq; have HTW := hid (HT.out w1 hB1); have B1 := hid hB1; clear hB1 q1) | (go_at_call 39; refine HTW.out.mono ?_; rintro e w2 ⟨rfl, hB2⟩))
    go_ret
    exact ⟨rfl, BV.out.trans ((B1.out.mono (by omega)).trans (hB2.mono (by have := B1.out.size; omega)))⟩
end Go.Proofs.YtfifnngdmhdkiaaGreatDoor
