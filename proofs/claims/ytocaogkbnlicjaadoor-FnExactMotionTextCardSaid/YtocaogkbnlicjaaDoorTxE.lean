/- DigitsText, StackText; the model's. -/
import Derived.Test.YtocaogkbnlicjaaDoorTxD
import Derived.Test.YtocaogkbnlicjaaDoorValid
namespace Go.Proofs.YtocaogkbnlicjaaDoor
open Go.RowKit Go.Shelf
set_option linter.unusedVariables false
set_option linter.unusedSimpArgs false
theorem dec_int (z : Int) (h : 0 ≤ z ∧ z < 1000) (w : World) : Calls Tryd.prog 63 #[.int .i64 z] w fun e w' => e = .returned (.string ⟨(Lib.itoa z).toArray⟩) ∧ Below w.heap.size w w' := by
  obtain ⟨n, rfl⟩ : ∃ n : Nat, z = (n : Int) := ⟨z.toNat, by omega⟩
  rw [itoa_nat]
  exact dec_any 3 (by omega) n (by omega) w
theorem itoa_len (z : Int) (h : 0 ≤ z ∧ z ≤ 99) : (Lib.itoa z).length = if z < 10 then 1 else 2 := by
  obtain ⟨n, rfl⟩ : ∃ n : Nat, z = (n : Int) := ⟨z.toNat, by omega⟩
  rw [itoa_nat, dec2 n (by omega)]
  by_cases h1 : n < 10
  · rw [if_pos h1, if_pos (by omega)]
  · rw [if_neg h1, if_neg (by omega)]
theorem pad_pos (z v : Int) (hz : 2 ≤ z ∧ z ≤ 100) (hv : 0 ≤ v ∧ v < z) (h1 : 10 < z) (h2 : v < 10) : padZ (padZ 1 (Lib.itoa (z - 1))).length (Lib.itoa v) = 48 :: Lib.itoa v := by
  have a := itoa_len (z - 1) (by omega); have b := itoa_len v (by omega)
  rw [if_neg (by omega)] at a
  rw [if_pos h2] at b
  have e : (padZ 1 (Lib.itoa (z - 1))).length = 2 := by rw [padZ_len, a]; rfl
  rw [e, padZ, b]
  rfl
theorem pad_neg (z v : Int) (hz : 2 ≤ z ∧ z ≤ 100) (hv : 0 ≤ v ∧ v < z) (h : ¬ (10 < z ∧ v < 10)) : padZ (padZ 1 (Lib.itoa (z - 1))).length (Lib.itoa v) = Lib.itoa v := by
  have a := itoa_len (z - 1) (by omega); have b := itoa_len v (by omega)
  have e : (padZ 1 (Lib.itoa (z - 1))).length ≤ (Lib.itoa v).length := by
    rw [padZ_len, a, b]
    by_cases h1 : 10 < z
    · rw [if_neg (show ¬ v < 10 by omega)]; split <;> decide
    · rw [if_pos (show z - 1 < 10 by omega)]; split <;> decide
  rw [padZ, Nat.sub_eq_zero_of_le e]
  rfl
set_option maxHeartbeats 1000000 in
theorem specDigit_any (z v : Int) (hz : 2 ≤ z ∧ z ≤ 100) (hv : 0 ≤ v ∧ v < z) (w : World) :
    Calls Tryd.prog 132 #[.int .u8 z, .int .u8 v] w fun e w' => e = .returned (.string ⟨(padZ (padZ 1 (Lib.itoa (z - 1))).length (Lib.itoa v)).toArray⟩) ∧ Below w.heap.size w w' := by
  have HX := hid (dec_int v (by omega) w)
  have hl := itoa2 v (by omega)
  have t1 : IntKind.i64.wrap v = v := IntWalk.i64_in _ (by omega)
  by_cases h1 : 10 < z
  · by_cases h2 : v < 10
    · rw [pad_pos z v hz hv h1 h2]
      obtain ⟨s, hs⟩ : ∃ s, Lib.itoa v = s := ⟨_, rfl⟩
      rw [hs] at HX hl ⊢
      have hsz : ¬ (9223372036854775807 < 1 + s.length) := by omega
      have HA := hid (app_mk [48] s)
      clear hs hl hz hv
      go_enter Tryd.func132, Tryd.ntmps132
      go_wp2_with fail
      refine HX.out.mono ?_
      rintro e w1 ⟨rfl, hB1⟩
      have B1 := hid hB1
      clear hB1
      go_wp2_with fail
      go_ret
      exact ⟨(show _ = Ending.returned (.string ((⟨#[48]⟩ : ByteArray) ++ ⟨s.toArray⟩)) from rfl).trans (congrArg _ (congrArg _ HA.out)), B1.out⟩
    · rw [pad_neg z v hz hv (by omega)]
      obtain ⟨s, hs⟩ : ∃ s, Lib.itoa v = s := ⟨_, rfl⟩
      rw [hs] at HX hl ⊢
      clear hs hl hz hv
      go_enter Tryd.func132, Tryd.ntmps132
      go_wp2_with fail
      refine HX.out.mono ?_
      rintro e w1 ⟨rfl, hB1⟩
      have B1 := hid hB1
      clear hB1
      go_wp2_with fail
      go_ret
      exact ⟨rfl, B1.out⟩
  · rw [pad_neg z v hz hv (by omega)]
    obtain ⟨s, hs⟩ : ∃ s, Lib.itoa v = s := ⟨_, rfl⟩
    rw [hs] at HX hl ⊢
    clear hs hl hz hv
    go_enter Tryd.func132, Tryd.ntmps132
    go_wp2_with fail
    refine HX.out.mono ?_
    rintro e w1 ⟨rfl, hB1⟩
    have B1 := hid hB1
    clear hB1
    go_wp2_with fail
    go_ret
    exact ⟨rfl, B1.out⟩
theorem shift_sep (sep : List UInt8) : ∀ r : List (List UInt8), (r.map (sep ++ ·)).flatten ++ sep = sep ++ (r.map (· ++ sep)).flatten
  | [] => by simp
  | y :: r => by
    have h := shift_sep sep r
    simp only [List.map_cons, List.flatten_cons, List.append_assoc] at h ⊢
    rw [h]
theorem join_snoc (sep x : List UInt8) (l : List (List UInt8)) : Lib.join (l ++ [x]) sep = (l.map (· ++ sep)).flatten ++ x := by
  cases l with
  | nil => simp [Lib.join_one]
  | cons y r =>
    have h := shift_sep sep r
    rw [List.cons_append, Lib.join_cons, Lib.joinTail, List.map_append, List.flatten_append, List.map_cons, List.flatten_cons]
    simp only [List.map_cons, List.map_nil, List.flatten_cons, List.flatten_nil, List.append_nil, List.append_assoc]
    rw [← List.append_assoc _ sep x, h]
    simp
/-- the text behind k wheels -/
def accT (zs : List Int) (wd : Nat → Nat) (k : Nat) : List UInt8 := if k < zs.length then ((List.range k).map fun j => txP zs wd (zs.length - 1 - j) ++ [58]).flatten else txT zs wd
theorem txT_eq (zs : List Int) (wd : Nat → Nat) : txT zs wd = Lib.join ((List.range zs.length).map fun j => txP zs wd (zs.length - 1 - j)) [58] := by
  unfold txT
  congr 1
  apply List.ext_getElem?
  intro i
  simp only [txL, List.map_map, List.getElem?_map]
  by_cases h : i < zs.length
  · simp [h]
  · simp [h]
theorem accT_zero (zs : List Int) (wd : Nat → Nat) (h : 1 ≤ zs.length) : accT zs wd 0 = [] := by rw [accT, if_pos (by omega)]; rfl
theorem accT_succ (zs : List Int) (wd : Nat → Nat) (k : Nat) (h : k + 1 < zs.length) : accT zs wd (k + 1) = accT zs wd k ++ txP zs wd (zs.length - 1 - k) ++ [58] := by
  unfold accT
  rw [if_pos h, if_pos (by omega), List.range_succ, List.map_append, List.flatten_append]
  simp
theorem accT_last (zs : List Int) (wd : Nat → Nat) (k : Nat) (h : k + 1 = zs.length) : accT zs wd (k + 1) = accT zs wd k ++ txP zs wd (zs.length - 1 - k) := by
  unfold accT
  rw [if_neg (by omega), if_pos (by omega), txT_eq, ← h, List.range_succ, List.map_append, List.map_cons, List.map_nil, join_snoc, List.map_map]
  rfl
theorem accT_all (zs : List Int) (wd : Nat → Nat) : accT zs wd zs.length = txT zs wd := by unfold accT; rw [if_neg (by omega)]
theorem accT_len (zs : List Int) (wd : Nat → Nat) (m : Nat) (h : ∀ k, k < zs.length → (txP zs wd k).length ≤ m) (h8 : zs.length ≤ 8) : ∀ k, k ≤ zs.length → (accT zs wd k).length ≤ 8 * (m + 1) := fun k hk => by
  have aux : ∀ k, k < zs.length → (accT zs wd k).length ≤ k * (m + 1) := by
    intro k
    induction k with
    | zero => intro hk; rw [accT_zero _ _ (by omega)]; simp
    | succ k ih =>
      intro hk
      rw [accT_succ _ _ _ hk]
      have a := ih (by omega); have b := h (zs.length - 1 - k) (by omega)
      simp only [List.length_append, List.length_cons, List.length_nil, Nat.add_mul]
      omega
  have mono : ∀ a, a ≤ 8 → a * (m + 1) ≤ 8 * (m + 1) := fun a ha => Nat.mul_le_mul_right _ ha
  by_cases hl : k < zs.length
  · exact Nat.le_trans (aux k hl) (mono k (by omega))
  · obtain rfl : k = zs.length := by omega
    rw [accT_all]
    exact Nat.le_trans (txT_len zs wd m h) (mono _ h8)
theorem cel_get {d0 d1 d2 d3 d4 d5 d6 d7 : Int} (d : Nat) (h : d < 8) : ([.int .u8 d0, .int .u8 d1, .int .u8 d2, .int .u8 d3, .int .u8 d4, .int .u8 d5, .int .u8 d6, .int .u8 d7] : List Value)[d]? = some (.int .u8 (([d0, d1, d2, d3, d4, d5, d6, d7] : List Int)[d]?.getD 0)) := by
  match d, h with
  | 0, _ => rfl
  | 1, _ => rfl
  | 2, _ => rfl
  | 3, _ => rfl
  | 4, _ => rfl
  | 5, _ => rfl
  | 6, _ => rfl
  | 7, _ => rfl
set_option maxRecDepth 100000 in
set_option maxHeartbeats 4000000 in
theorem l01Text_any (b n cap : Nat) (zs : List Int) (d0 d1 d2 d3 d4 d5 d6 d7 : Int) (hn : n = zs.length) (hv : okV zs [d0, d1, d2, d3, d4, d5, d6, d7] = true) (w : World) (h : Stk w b zs) (ho : Oct d0 d1 d2 d3 d4 d5 d6 d7) :
    Calls Tryd.prog 105 #[.slice (some ⟨b, 0, none⟩) n cap, .agg #[.int .u8 d0, .int .u8 d1, .int .u8 d2, .int .u8 d3, .int .u8 d4, .int .u8 d5, .int .u8 d6, .int .u8 d7]] w fun e w' => e = .returned (.string ⟨(txT (List.take n [d0, d1, d2, d3, d4, d5, d6, d7]) (wdD zs)).toArray⟩) ∧ Below w.heap.size w w' := by
  have N := hid hn
  have hbl := h.1
  have HO := hid ho
  obtain ⟨hv1, hv2⟩ := okV_out hv
  obtain ⟨h1n, h8, hin, _, _⟩ := okL_out hv1
  have hlt := okD_lt hv2 h8 (fun j hj => (oct_bd HO.out j hj).1)
  rw [← N.out] at h1n h8 hin hlt
  have HI := hid hin; have HL := hid hlt
  have hdk : ∀ k, k < n → 0 ≤ ug (List.take n [d0, d1, d2, d3, d4, d5, d6, d7]) k ∧ ug (List.take n [d0, d1, d2, d3, d4, d5, d6, d7]) k ≤ 99 := fun k hk => by
    rw [ug_take _ _ _ hk]
    have a := HI.out k hk; have b := HL.out k hk; have c := oct_bd HO.out k (by omega)
    omega
  have hP : ∀ k, k < n → (txP (List.take n [d0, d1, d2, d3, d4, d5, d6, d7]) (wdD zs) k).length ≤ 4 := fun k hk => by
    unfold txP
    rw [padZ_len]
    have a := itoa2 _ (hdk k hk); have b := wdD_le zs k (by have := HI.out k hk; exact this)
    omega
  have hll : (List.take n [d0, d1, d2, d3, d4, d5, d6, d7]).length = n := by simp; omega
  have HPC := hid (fun (k : Nat) (hk : k < n) => show txP (List.take n [d0, d1, d2, d3, d4, d5, d6, d7]) (wdD zs) k = padZ (padZ 1 (Lib.itoa (zs[k]?.getD 0 - 1))).length (Lib.itoa ([d0, d1, d2, d3, d4, d5, d6, d7][k]?.getD 0)) by unfold txP; rw [ug_take _ _ _ hk]; rfl)
  have bV : Below w.heap.size w (w.alloc (.cells #[.int .u8 d0, .int .u8 d1, .int .u8 d2, .int .u8 d3, .int .u8 d4, .int .u8 d5, .int .u8 d6, .int .u8 d7] 94)) := (Below.refl _ w).alloc (Nat.le_refl _) _
  have rV := Row.new w 94 [.int .u8 d0, .int .u8 d1, .int .u8 d2, .int .u8 d3, .int .u8 d4, .int .u8 d5, .int .u8 d6, .int .u8 d7]
  have sV := h.below bV hbl
  have hAL := accT_len (List.take n [d0, d1, d2, d3, d4, d5, d6, d7]) (wdD zs) 4 (by rw [hll]; exact hP) (by omega)
  have hA0 := accT_zero (List.take n [d0, d1, d2, d3, d4, d5, d6, d7]) (wdD zs) (by omega)
  have hAE := accT_all (List.take n [d0, d1, d2, d3, d4, d5, d6, d7]) (wdD zs)
  have hAS := accT_succ (List.take n [d0, d1, d2, d3, d4, d5, d6, d7]) (wdD zs)
  have hAT := accT_last (List.take n [d0, d1, d2, d3, d4, d5, d6, d7]) (wdD zs)
  rw [hll] at hAL hAE hAS hAT
  have HAL := hid hAL; have HAE := hid hAE; have HAS := hid hAS; have HAT := hid hAT; have HA0 := hid hA0
  have t0 : IntKind.i64.wrap ((n : Int) - 1) = (n : Int) - 1 := IntWalk.i64_in _ (by omega)
  rw [← HAE.out]
  have HS := hid sV; have HR := hid rV; have HB := hid bV
  have h1N := hid h1n
  obtain ⟨A, hA⟩ : ∃ A, accT (List.take n [d0, d1, d2, d3, d4, d5, d6, d7]) (wdD zs) = A := ⟨_, rfl⟩
  have HPL := hid hP
  obtain ⟨TP, hTP⟩ : ∃ A, txP (List.take n [d0, d1, d2, d3, d4, d5, d6, d7]) (wdD zs) = A := ⟨_, rfl⟩
  rw [hA] at HAL HAE HAS HAT HA0 ⊢
  rw [hTP] at HAS HAT HPC HPL
  clear hAL hA0 hAE hAS hAT hP hll hA hTP h hv hn hdk hv1 hv2 hlt ho sV rV bV hin HAE
  go_enter Tryd.func105, Tryd.ntmps105
  go_wp2_with fail
  go_loopw [5, 6] (fun s i wr => ∃ (k c : Nat) (z : Int), k + c = n ∧ s = .string ⟨(A k).toArray⟩ ∧ i = .int .i64 z ∧ z = (c : Int) - 1 ∧ Stk wr b zs ∧ Row wr w.heap.size 94 [.int .u8 d0, .int .u8 d1, .int .u8 d2, .int .u8 d3, .int .u8 d4, .int .u8 d5, .int .u8 d6, .int .u8 d7] ∧ Below w.heap.size w wr) (fun _ i _ => (intOf i + 1).toNat)
  case atStart => exact ⟨0, n, (n : Int) - 1, by omega, by rw [HA0.out], rfl, rfl, HS.out, HR.out, HB.out⟩
  case round =>
    obtain ⟨k, c, z, hkc, rfl, rfl, hz, sS, rD, hB⟩ := hrel
    have hzr := hB.size
    have HKC := hid hkc
    by_cases h0c : c = 0
    · have hzn : ¬ (0 : Int) ≤ z := by omega
      have hzn2 : z < 0 := by omega
      obtain rfl : k = n := by omega
      clear hz hkc sS
      go_wp2_with fail
      go_ret
      exact ⟨rfl, hB⟩
    · obtain ⟨d, hd⟩ : ∃ d, c = d + 1 := ⟨c - 1, by omega⟩
      obtain rfl : z = (d : Int) := by omega
      have hdn : d < n := by omega
      have hd0 : (0 : Int) ≤ (d : Int) := by omega
      have hdn' : (d : Int) < (n : Int) := by omega
      have hd8 : (d : Int) < 8 := by omega
      have tz : IntKind.i64.wrap ((d : Int) - 1) = (d : Int) - 1 := IntWalk.i64_in _ (by omega)
      have hdz : d < zs.length := by have := N.out; omega
      have hbz := HI.out d hdn
      have hL1 := HAL.out k (by omega)
      have hL2 := HPL.out d hdn
      have hpc := HPC.out d hdn
      have hbv := HL.out d hdn
      have hcv := oct_bd HO.out d (by omega)
      have hvq := cel_get (d0 := d0) (d1 := d1) (d2 := d2) (d3 := d3) (d4 := d4) (d5 := d5) (d6 := d6) (d7 := d7) d (by omega)
      obtain ⟨v, hvv⟩ : ∃ v, ([d0, d1, d2, d3, d4, d5, d6, d7] : List Int)[d]?.getD 0 = v := ⟨_, rfl⟩
      rw [hvv] at hbv hcv hvq hpc
      obtain ⟨z, hzz⟩ : ∃ z, zs[d]?.getD 0 = z := ⟨_, rfl⟩
      have hzq : some (Value.int .u8 (zs[d]?.getD 0)) = some (.int .u8 z) := by rw [hzz]
      rw [hzz] at hbz hpc hbv
      have hpcS := hid hpc
      have HDG := hid (fun W => specDigit_any z v (by omega) (by omega) W)
      rw [← hpc] at HDG
      obtain ⟨P, hPP⟩ : ∃ P, TP d = P := ⟨_, rfl⟩
      rw [hPP] at HDG hL2
      have e1 : n - 1 - k = d := by omega
      have HE1 := hid (fun (h : k + 1 < n) => show A (k + 1) = A k ++ P ++ [58] by rw [HAS.out k h, e1, hPP])
      have HE2 := hid (fun (h : k + 1 = n) => show A (k + 1) = A k ++ P by rw [HAT.out k h, e1, hPP])
      obtain ⟨L, hLL⟩ : ∃ L, A k = L := ⟨_, rfl⟩
      rw [hLL] at hL1 HE1 HE2 ⊢
      have hs1 : ¬ (9223372036854775807 < L.length + P.length) := by omega
      have hs2 : ¬ (9223372036854775807 < L.length + P.length + 1) := by omega
      have AP1 := hid (app_mk L P)
      have AP2 := hid (app_mk (L ++ P) [58])
      have t64 : IntKind.i64.wrap z = z := IntWalk.i64_in _ (by omega)
      have HD := hid hd
      clear hpc hz hkc hd hPP hLL hzz hvv e1 hL1 hL2
      go_wp2_with fail
      refine wp_region_held (S := fun W' : World => W'.cell? ⟨b, d, none⟩ = some (.int .u8 z) ∧ W'.cell? ⟨w.heap.size, d, none⟩ = some (.int .u8 v)) (by kernel_rfl) ?_
      change wpAnyH _ _ _ _ _ _ _ _ (World.drew _)
      obtain ⟨W0, hW0⟩ : ∃ X, X = World.drew (wr) := ⟨_, rfl⟩
      have hD0 : Below (wr).heap.size (wr) W0 := by rw [hW0]; exact (Below.refl _ _).drew
      replace sS := sS.below hD0 sS.1
      replace rD := rD.below hD0 rD.lt
      have bW0 := hB.trans (hD0.mono hB.size)
      have bR : Below W0.heap.size W0 W0 := Below.refl _ _
      rw [← hW0]
      clear hW0 hD0
      have l_sS := sS.1
      have l_rD := rD.lt
      have hS0 : (fun W' : World => W'.cell? ⟨b, d, none⟩ = some (.int .u8 z) ∧ W'.cell? ⟨w.heap.size, d, none⟩ = some (.int .u8 v)) W0 := ⟨((sS.2.1 d hdz).trans hzq), ((rD.cell d).trans hvq)⟩
      refine wpAnyH_takeD (some 14) (i := 0) (v := ?_) rfl rfl (by kernel_rfl) (by kernel_rfl) (by kernel_rfl) (fun _ _ _ h => h) (.inl ⟨by kernel_rfl, ?_⟩) hS0 ?_
      rotate_left
      · intro w' hw'; go_simp; try with_reducible rfl
      try simp only [Act.put, List.setIfInBounds_toArray, List.set_cons_zero, List.set_cons_succ]
      refine wpAnyH_takeD (some 15) (i := 1) (v := ?_) rfl rfl (by kernel_rfl) (by kernel_rfl) (by kernel_rfl) (fun _ _ _ h => h) (.inl ⟨by kernel_rfl, ?_⟩) hS0 ?_
      rotate_left
      · intro w' hw'; go_simp; try with_reducible rfl
      try simp only [Act.put, List.setIfInBounds_toArray, List.set_cons_zero, List.set_cons_succ]
      refine wpAnyH_takeD (some 16) (i := 2) (v := ?_) rfl rfl (by kernel_rfl) (by kernel_rfl) (by kernel_rfl) (fun _ _ _ h => h) (.inl ⟨by kernel_rfl, ?_⟩) hS0 ?_
      rotate_left
      · intro w' hw'; go_simp; try with_reducible rfl
      try simp only [Act.put, List.setIfInBounds_toArray, List.set_cons_zero, List.set_cons_succ]
      refine wpAnyH_takeD (some 17) (i := 3) (v := ?_) rfl rfl (by kernel_rfl) (by kernel_rfl) (by kernel_rfl) (fun _ _ _ h => h) (.inl ⟨by kernel_rfl, ?_⟩) hS0 ?_
      rotate_left
      · intro w' hw'; have e0 := hw'.1; have e1 := hw'.2; clear hw'; go_simp; try with_reducible rfl
      try simp only [Act.put, List.setIfInBounds_toArray, List.set_cons_zero, List.set_cons_succ]
      refine wpAnyH_takeD (some 18) (i := 4) (v := ?_) rfl rfl (by kernel_rfl) (by kernel_rfl) (by kernel_rfl) (fun _ _ _ h => h) (.inl ⟨by kernel_rfl, ?_⟩) hS0 ?_
      rotate_left
      · intro w' hw'; have e0 := hw'.1; have e1 := hw'.2; clear hw'; go_simp; try with_reducible rfl
      try simp only [Act.put, List.setIfInBounds_toArray, List.set_cons_zero, List.set_cons_succ]
      refine wpAnyH_takeD (some 19) (i := 5) (v := ?_) rfl rfl (by kernel_rfl) (by kernel_rfl) (by kernel_rfl) (fun _ _ _ h => h) (.inl ⟨by kernel_rfl, ?_⟩) hS0 ?_
      rotate_left
      · intro w' hw'; go_simp; try with_reducible rfl
      try simp only [Act.put, List.setIfInBounds_toArray, List.set_cons_zero, List.set_cons_succ]
      refine wpAnyH_takeD (some 20) (i := 6) (v := ?_) rfl rfl (by kernel_rfl) (by kernel_rfl) (by kernel_rfl) (fun _ _ _ h => h) (.inl ⟨by kernel_rfl, ?_⟩) hS0 ?_
      rotate_left
      · intro w' hw'; have e0 := hw'.1; have e1 := hw'.2; clear hw'; go_simp; try with_reducible rfl
      try simp only [Act.put, List.setIfInBounds_toArray, List.set_cons_zero, List.set_cons_succ]
      refine wpAnyH_takeD (some 21) (i := 7) (v := ?_) rfl rfl (by kernel_rfl) (by kernel_rfl) (by kernel_rfl) (fun _ _ _ h => h) (.inl ⟨by kernel_rfl, ?_⟩) hS0 ?_
      rotate_left
      · intro w' hw'; have e0 := hw'.1; have e1 := hw'.2; clear hw'; go_simp; try with_reducible rfl
      try simp only [Act.put, List.setIfInBounds_toArray, List.set_cons_zero, List.set_cons_succ]
      refine wpAnyH_all (rs := [8]) (by kernel_rfl) (by simp) ?_
      intro i hi; simp only [List.mem_cons, List.not_mem_nil, or_false] at hi
      subst hi
      refine wpOp_step rfl (fun K hK => ?_)
      go_simp
      with_reducible refine (HDG.out W0).mono ?_
      rintro e v1 ⟨rfl, hB1⟩
      replace sS := sS.below hB1 sS.1
      replace rD := rD.below hB1 rD.lt
      replace bR := bR.trans (hB1.mono bR.size)
      have hS1 : (fun W' : World => W'.cell? ⟨b, d, none⟩ = some (.int .u8 z) ∧ W'.cell? ⟨w.heap.size, d, none⟩ = some (.int .u8 v)) v1 := ⟨((sS.2.1 d hdz).trans hzq), ((rD.cell d).trans hvq)⟩
      refine hK _ _ ⟨hS1, ?_⟩
      try simp only [Act.put, List.setIfInBounds_toArray, List.set_cons_zero, List.set_cons_succ]
      clear hB1 hK K hS0
      refine wpAnyH_takeD (some 23) (i := 9) (v := ?_) rfl rfl (by kernel_rfl) (by kernel_rfl) (by kernel_rfl) (fun _ _ _ h => h) (.inl ⟨by kernel_rfl, ?_⟩) hS1 ?_
      rotate_left
      · intro w' hw'; go_simp; try with_reducible rfl
      try simp only [Act.put, List.setIfInBounds_toArray, List.set_cons_zero, List.set_cons_succ]
      refine wpAnyH_takeD (some 5) (i := 10) (v := ?_) rfl rfl (by kernel_rfl) (by kernel_rfl) (by kernel_rfl) (fun _ _ _ h => h) (.inl ⟨by kernel_rfl, ?_⟩) hS1 ?_
      rotate_left
      · intro w' hw'; go_simp; try with_reducible rfl
      try simp only [Act.put, List.setIfInBounds_toArray, List.set_cons_zero, List.set_cons_succ]
      refine wpAnyH_done (by kernel_rfl) ?_ _
      have sX := hid sS
      have rX := hid rD
      have bX := hid (bW0.trans (bR.mono bW0.size))
      clear sS rD bW0 bR hB
      by_cases hdz0 : d = 0
      · subst hdz0
        have hg : ¬ (0 : Int) < ((0 : Nat) : Int) := by omega
        go_wp2_with fail
        go_roundw
        case rel => exact ⟨k + 1, 0, ((0 : Nat) : Int) - 1, by have := HKC.out; have := HD.out; omega, (congrArg Value.string AP1.out).trans (by rw [HE2.out (by have := HKC.out; have := HD.out; omega)]), rfl, rfl, sX.out, rX.out, bX.out⟩
        case measure => simp [intOf]
      · have hg : (0 : Int) < (d : Int) := by omega
        go_wp2_with fail
        go_roundw
        case rel => exact ⟨k + 1, d, (d : Int) - 1, by have := HKC.out; have := HD.out; omega, (congrArg Value.string ((congrArg (· ++ (⟨#[58]⟩ : ByteArray)) AP1.out).trans AP2.out)).trans (by rw [HE1.out (by have := HKC.out; have := HD.out; omega)]), rfl, rfl, sX.out, rX.out, bX.out⟩
        case measure => simp [intOf] <;> omega
set_option maxRecDepth 100000 in
set_option maxHeartbeats 4000000 in
theorem l01Bases_any (b n cap : Nat) (zs : List Int) (hn : n = zs.length) (hv : okL zs = true) (w : World) (h : Stk w b zs) :
    Calls Tryd.prog 100 #[.slice (some ⟨b, 0, none⟩) n cap] w fun e w' => e = .returned (.string ⟨(txT zs (fun _ => 1)).toArray⟩) ∧ Below w.heap.size w w' := by
  have N := hid hn
  have hbl := h.1
  obtain ⟨h1n, h8, hin, _, _⟩ := okL_out hv
  rw [← N.out] at h1n h8 hin
  have HI := hid hin
  have hP : ∀ k, k < n → (txP zs (fun _ => 1) k).length ≤ 4 := fun k hk => by
    unfold txP
    rw [padZ_len]
    have a : (Lib.itoa (ug zs k)).length ≤ 4 := by
      have b := HI.out k hk
      obtain ⟨m, hm⟩ : ∃ m : Nat, ug zs k = (m : Int) := ⟨(ug zs k).toNat, by unfold ug; omega⟩
      rw [hm, itoa_nat]
      have hm' : (zs[k]?.getD 0) = (m : Int) := hm
      exact dec_len 3 m (by omega)
    show max 1 _ ≤ 4
    omega
  have hll : zs.length = n := N.out.symm
  have HPC := hid (fun (k : Nat) (hk : k < n) => show txP zs (fun _ => 1) k = Lib.itoa (zs[k]?.getD 0) by
    unfold txP
    have e : ∀ l : List UInt8, 1 ≤ l.length → padZ 1 l = l := fun l hl => by rw [padZ, Nat.sub_eq_zero_of_le hl]; rfl
    apply e
    have b := HI.out k hk
    obtain ⟨m, hm⟩ : ∃ m : Nat, ug zs k = (m : Int) := ⟨(ug zs k).toNat, by unfold ug; omega⟩
    rw [hm, itoa_nat, Lib.decDigits]
    split <;> simp)
  have bV : Below w.heap.size w w := Below.refl _ w
  have sV := h
  have hAL := accT_len zs (fun _ => 1) 4 (by rw [hll]; exact hP) (by omega)
  have hA0 := accT_zero zs (fun _ => 1) (by omega)
  have hAE := accT_all zs (fun _ => 1)
  have hAS := accT_succ zs (fun _ => 1)
  have hAT := accT_last zs (fun _ => 1)
  rw [hll] at hAL hAE hAS hAT
  have HAL := hid hAL; have HAE := hid hAE; have HAS := hid hAS; have HAT := hid hAT; have HA0 := hid hA0
  have t0 : IntKind.i64.wrap ((n : Int) - 1) = (n : Int) - 1 := IntWalk.i64_in _ (by omega)
  rw [← HAE.out]
  have HS := hid sV; have HB := hid bV
  have h1N := hid h1n
  obtain ⟨A, hA⟩ : ∃ A, accT zs (fun _ => 1) = A := ⟨_, rfl⟩
  have HPL := hid hP
  obtain ⟨TP, hTP⟩ : ∃ A, txP zs (fun _ => 1) = A := ⟨_, rfl⟩
  rw [hA] at HAL HAE HAS HAT HA0 ⊢
  rw [hTP] at HAS HAT HPC HPL
  clear hAL hA0 hAE hAS hAT hP hll hA hTP h hv hn sV bV hin HAE
  go_enter Tryd.func100, Tryd.ntmps100
  go_wp2_with fail
  go_loopw [3, 4] (fun s i wr => ∃ (k c : Nat) (z : Int), k + c = n ∧ s = .string ⟨(A k).toArray⟩ ∧ i = .int .i64 z ∧ z = (c : Int) - 1 ∧ Stk wr b zs ∧ Below w.heap.size w wr) (fun _ i _ => (intOf i + 1).toNat)
  case atStart => exact ⟨0, n, (n : Int) - 1, by omega, by rw [HA0.out], rfl, rfl, HS.out, HB.out⟩
  case round =>
    obtain ⟨k, c, z, hkc, rfl, rfl, hz, sS, hB⟩ := hrel
    have hzr := hB.size
    have HKC := hid hkc
    by_cases h0c : c = 0
    · have hzn : ¬ (0 : Int) ≤ z := by omega
      have hzn2 : z < 0 := by omega
      obtain rfl : k = n := by omega
      clear hz hkc sS
      go_wp2_with fail
      go_ret
      exact ⟨rfl, hB⟩
    · obtain ⟨d, hd⟩ : ∃ d, c = d + 1 := ⟨c - 1, by omega⟩
      obtain rfl : z = (d : Int) := by omega
      have hdn : d < n := by omega
      have hd0 : (0 : Int) ≤ (d : Int) := by omega
      have hdn' : (d : Int) < (n : Int) := by omega
      have hd8 : (d : Int) < 8 := by omega
      have tz : IntKind.i64.wrap ((d : Int) - 1) = (d : Int) - 1 := IntWalk.i64_in _ (by omega)
      have hdz : d < zs.length := by have := N.out; omega
      have hbz := HI.out d hdn
      have hL1 := HAL.out k (by omega)
      have hL2 := HPL.out d hdn
      have hpc := HPC.out d hdn
      obtain ⟨z, hzz⟩ : ∃ z, zs[d]?.getD 0 = z := ⟨_, rfl⟩
      have hzq : some (Value.int .u8 (zs[d]?.getD 0)) = some (.int .u8 z) := by rw [hzz]
      rw [hzz] at hbz hpc
      have hpcS := hid hpc
      have HDG := hid (fun W => dec_int z (by omega) W)
      rw [← hpc] at HDG
      obtain ⟨P, hPP⟩ : ∃ P, TP d = P := ⟨_, rfl⟩
      rw [hPP] at HDG hL2
      have e1 : n - 1 - k = d := by omega
      have HE1 := hid (fun (h : k + 1 < n) => show A (k + 1) = A k ++ P ++ [58] by rw [HAS.out k h, e1, hPP])
      have HE2 := hid (fun (h : k + 1 = n) => show A (k + 1) = A k ++ P by rw [HAT.out k h, e1, hPP])
      obtain ⟨L, hLL⟩ : ∃ L, A k = L := ⟨_, rfl⟩
      rw [hLL] at hL1 HE1 HE2 ⊢
      have hs1 : ¬ (9223372036854775807 < L.length + P.length) := by omega
      have hs2 : ¬ (9223372036854775807 < L.length + P.length + 1) := by omega
      have AP1 := hid (app_mk L P)
      have AP2 := hid (app_mk (L ++ P) [58])
      have t64 : IntKind.i64.wrap z = z := IntWalk.i64_in _ (by omega)
      have HD := hid hd
      clear hpc hz hkc hd hPP hLL hzz e1 hL1 hL2
      have cz := (sS.2.1 d hdz).trans hzq
      go_wp2_with fail
      refine (HDG.out _).mono ?_
      rintro e v1 ⟨rfl, hB1⟩
      have sX := hid (sS.below hB1 sS.1)
      have bX := hid (hB.trans (hB1.mono hzr))
      clear hB1 cz
      clear sS hB
      by_cases hdz0 : d = 0
      · subst hdz0
        have hg : ¬ (0 : Int) < ((0 : Nat) : Int) := by omega
        go_wp2_with fail
        go_roundw
        case rel => exact ⟨k + 1, 0, ((0 : Nat) : Int) - 1, by have := HKC.out; have := HD.out; omega, (congrArg Value.string AP1.out).trans (by rw [HE2.out (by have := HKC.out; have := HD.out; omega)]), rfl, rfl, sX.out, bX.out⟩
        case measure => simp [intOf]
      · have hg : (0 : Int) < (d : Int) := by omega
        go_wp2_with fail
        go_roundw
        case rel => exact ⟨k + 1, d, (d : Int) - 1, by have := HKC.out; have := HD.out; omega, (congrArg Value.string ((congrArg (· ++ (⟨#[58]⟩ : ByteArray)) AP1.out).trans AP2.out)).trans (by rw [HE1.out (by have := HKC.out; have := HD.out; omega)]), rfl, rfl, sX.out, bX.out⟩
        case measure => simp [intOf] <;> omega
end Go.Proofs.YtocaogkbnlicjaaDoor
