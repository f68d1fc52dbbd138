/- A wheel that seems to be stuck; the program's closures. -/
import Derived.Test.YtofpgkbcodopiaaSkM
import Derived.Test.YtofpgkbcodopiaaOfC
import Derived.Test.YtofpgkbcodopiaaValue
import Derived.Test.YtofpgkbcodopiaaSizes
import Derived.Test.YtofpgkbcodopiaaEndsT
import Derived.OrdersHeld
import Derived.Laws.EntriesVeiled
import Derived.Deep.RegionHeld3
namespace Go.Proofs.Ytofpgkbcodopiaa
open Go.RowKit
set_option linter.unusedVariables false
set_option linter.unusedSimpArgs false
theorem oct_dgI (l : List Int) (k : Nat) (hk : k < 8) : ([dg l 0, dg l 1, dg l 2, dg l 3, dg l 4, dg l 5, dg l 6, dg l 7] : List Int)[k]?.getD 0 = dg l k := by
  match k, hk with
  | 0, _ => rfl
  | 1, _ => rfl
  | 2, _ => rfl
  | 3, _ => rfl
  | 4, _ => rfl
  | 5, _ => rfl
  | 6, _ => rfl
  | 7, _ => rfl
theorem dg_isI {zs : List Int} {v : Int} {k : Nat} (hk : k < zs.length) (h8 : zs.length ≤ 8) : dg (dgL zs v) k = dgv zs k v := by
  have := dgL_get zs v k (by omega)
  rw [if_pos hk] at this
  exact this
theorem index_dgI (l : List Int) (k : Nat) (hk : k < 8) (w : World) : (Instr.index 43 (.agg #[.int .u8 (dg (l) 0), .int .u8 (dg (l) 1), .int .u8 (dg (l) 2), .int .u8 (dg (l) 3), .int .u8 (dg (l) 4), .int .u8 (dg (l) 5), .int .u8 (dg (l) 6), .int .u8 (dg (l) 7)]) (.int .i64 (k : Int))).run Try.prog w = .ok (.int .u8 (dg l k)) w := by
  rw [index_oct _ _ _ _ _ _ _ _ k hk w, oct_dgI l k hk]
theorem anyB_snoc (P : Nat → Bool) (k : Nat) : anyB P (k + 1) = (anyB P k || P k) := by unfold anyB; rw [List.range_succ]; simp
theorem anyB_cong {P Q : Nat → Bool} : ∀ n, (∀ j, j < n → P j = Q j) → anyB P n = anyB Q n
  | 0, _ => rfl
  | n + 1, h => by rw [anyB_snoc, anyB_snoc, anyB_cong n (fun j hj => h j (by omega)), h n (by omega)]
theorem anyB_from (P : Nat → Bool) (a : Nat) (h : ∀ j, j < a → P j = false) : ∀ m, anyB P (a + m) = anyB (fun j => P (a + j)) m
  | 0 => anyB_no h
  | m + 1 => by rw [← Nat.add_assoc, anyB_snoc, anyB_snoc, anyB_from P a h m]
set_option maxRecDepth 100000 in
set_option maxHeartbeats 4000000 in
theorem dig_any (bS nS capS : Nat) (zs : List Int) (hnS : nS = zs.length) (b n cap : Nat) (js : List (Int × Int)) (hn : n = js.length) (hv : okL zs = true) (wl k : Nat) (hwl : wl < zs.length) (hk : k < n) (hrv : 0 ≤ rv js k ∧ rv js k ≤ 1000000000000) (X : Nat) (w : World) (hS : Stk w bS zs) (hR : Rst w b js) (hX : X + 2 < w.heap.size)
    (h0 : w.cell? ⟨X, 0, none⟩ = some (.slice (some ⟨bS, 0, none⟩) nS capS)) (h1 : w.cell? ⟨X + 1, 0, none⟩ = some (.slice (some ⟨b, 0, none⟩) n cap)) (h2 : w.cell? ⟨X + 2, 0, none⟩ = some (.int .i64 (wl : Int))) :
    Calls Try.prog 38 #[.int .i64 (k : Int), .pointer (some ⟨X, 0, none⟩), .pointer (some ⟨X + 1, 0, none⟩), .pointer (some ⟨X + 2, 0, none⟩)] w (GivesB w (.int .u8 (dgJ zs js wl k))) := by
  have h8 : zs.length ≤ 8 := (okL_out hv).2.1
  have e : dgJ zs js wl k = dg (dgL zs (rv js k)) wl := by unfold dgJ; rw [dg_isI hwl h8]
  have c3 := (hR.2.1 k (by rw [← hn]; exact hk)).2
  rw [e]
  obtain ⟨v, hvv⟩ : ∃ v, rv js k = v := ⟨_, rfl⟩
  rw [hvv] at c3 hrv ⊢
  have HD := hid (fun W s => digits_any bS nS capS zs hnS hv v hrv.1 hrv.2 W s)
  have ix := index_dgI (dgL zs v) wl (by omega)
  obtain ⟨y, hy⟩ : ∃ y, dg (dgL zs v) wl = y := ⟨_, rfl⟩
  rw [hy] at ix ⊢
  have HLT := hid (show bS < w.heap.size ∧ b < w.heap.size ∧ X + 2 < w.heap.size from ⟨hS.1, hR.1, hX⟩)
  have HS := hid hS; have H0 := hid h0; have H1 := hid h1; have H2 := hid h2; have C3 := hid c3
  have hk0 : (0 : Int) ≤ (k : Int) := by omega
  have hkn : (k : Int) < (n : Int) := by omega
  clear hS hR hn hnS hv hwl hrv hX h0 h1 h2 h8 e c3 hvv hy
  go_enter Try.func38, Try.ntmps38
  go_upto_region 1 with fail
  refine wp_region_held (S := fun W' : World => W'.cell? ⟨X, 0, none⟩ = some (.slice (some ⟨bS, 0, none⟩) nS capS) ∧ W'.cell? ⟨X + 1, 0, none⟩ = some (.slice (some ⟨b, 0, none⟩) n cap) ∧ W'.cell? ⟨X + 2, 0, none⟩ = some (.int .i64 (wl : Int)) ∧ W'.cell? ⟨b, k * 2 + 1, none⟩ = some (.int .i64 v)) (by kernel_rfl) ?_
  change wpAnyH _ _ _ _ _ _ _ _ (World.drew _)
  obtain ⟨W0, hW0⟩ : ∃ X, X = World.drew w := ⟨_, rfl⟩
  have q0 : Below w.heap.size w W0 := by rw [hW0]; exact (Below.refl _ _).drew
  have hS0 : (fun W' : World => W'.cell? ⟨X, 0, none⟩ = some (.slice (some ⟨bS, 0, none⟩) nS capS) ∧ W'.cell? ⟨X + 1, 0, none⟩ = some (.slice (some ⟨b, 0, none⟩) n cap) ∧ W'.cell? ⟨X + 2, 0, none⟩ = some (.int .i64 (wl : Int)) ∧ W'.cell? ⟨b, k * 2 + 1, none⟩ = some (.int .i64 v)) W0 := ⟨(q0.cell (p := ⟨X, 0, none⟩) (by show X < w.heap.size; have := HLT.out; omega)).trans H0.out, (q0.cell (p := ⟨X + 1, 0, none⟩) (by show X + 1 < w.heap.size; have := HLT.out; omega)).trans H1.out, (q0.cell (p := ⟨X + 2, 0, none⟩) HLT.out.2.2).trans H2.out, (q0.cell (p := ⟨b, k * 2 + 1, none⟩) HLT.out.2.1).trans C3.out⟩
  rw [← hW0]
  clear hW0
  refine wpAnyH_takeD (some 6) (i := 0) (v := ?_) rfl rfl (by kernel_rfl) (by kernel_rfl) (by kernel_rfl) (fun _ _ _ h => h) (.inl ⟨by kernel_rfl, ?_⟩) hS0 ?_
  rotate_left
  · intro w' hw'; obtain ⟨g1, g2, g3, g4⟩ := hw'; go_simp; try with_reducible rfl
  try simp only [Act.put, List.setIfInBounds_toArray, List.set_cons_zero, List.set_cons_succ]
  refine wpAnyH_takeD (some 7) (i := 1) (v := ?_) rfl rfl (by kernel_rfl) (by kernel_rfl) (by kernel_rfl) (fun _ _ _ h => h) (.inl ⟨by kernel_rfl, ?_⟩) hS0 ?_
  rotate_left
  · intro w' hw'; obtain ⟨g1, g2, g3, g4⟩ := hw'; go_simp; try with_reducible rfl
  try simp only [Act.put, List.setIfInBounds_toArray, List.set_cons_zero, List.set_cons_succ]
  refine wpAnyH_takeD (some 8) (i := 2) (v := ?_) rfl rfl (by kernel_rfl) (by kernel_rfl) (by kernel_rfl) (fun _ _ _ h => h) (.inl ⟨by kernel_rfl, ?_⟩) hS0 ?_
  rotate_left
  · intro w' hw'; go_simp; try with_reducible rfl
  try simp only [Act.put, List.setIfInBounds_toArray, List.set_cons_zero, List.set_cons_succ]
  refine wpAnyH_takeD (some 9) (i := 3) (v := ?_) rfl rfl (by kernel_rfl) (by kernel_rfl) (by kernel_rfl) (fun _ _ _ h => h) (.inl ⟨by kernel_rfl, ?_⟩) hS0 ?_
  rotate_left
  · intro w' hw'; obtain ⟨g1, g2, g3, g4⟩ := hw'; go_simp; try with_reducible rfl
  try simp only [Act.put, List.setIfInBounds_toArray, List.set_cons_zero, List.set_cons_succ]
  refine wpAnyH_takeD (some 10) (i := 4) (v := ?_) rfl rfl (by kernel_rfl) (by kernel_rfl) (by kernel_rfl) (fun _ _ _ h => h) (.inl ⟨by kernel_rfl, ?_⟩) hS0 ?_
  rotate_left
  · intro w' hw'; obtain ⟨g1, g2, g3, g4⟩ := hw'; go_simp; try with_reducible rfl
  try simp only [Act.put, List.setIfInBounds_toArray, List.set_cons_zero, List.set_cons_succ]
  refine wpAnyH_takeD (some 11) (i := 5) (v := ?_) rfl rfl (by kernel_rfl) (by kernel_rfl) (by kernel_rfl) (fun _ _ _ h => h) (.inl ⟨by kernel_rfl, ?_⟩) hS0 ?_
  rotate_left
  · intro w' hw'; obtain ⟨g1, g2, g3, g4⟩ := hw'; go_simp; try with_reducible rfl
  try simp only [Act.put, List.setIfInBounds_toArray, List.set_cons_zero, List.set_cons_succ]
  refine wpAnyH_takeD (some 13) (i := 7) (v := ?_) rfl rfl (by kernel_rfl) (by kernel_rfl) (by kernel_rfl) (fun _ _ _ h => h) (.inl ⟨by kernel_rfl, ?_⟩) hS0 ?_
  rotate_left
  · intro w' hw'; obtain ⟨g1, g2, g3, g4⟩ := hw'; go_simp; try with_reducible rfl
  try simp only [Act.put, List.setIfInBounds_toArray, List.set_cons_zero, List.set_cons_succ]
  refine wpAnyH_all (rs := [6]) (by kernel_rfl) (by simp) ?_
  intro i hi; simp only [List.mem_cons, List.not_mem_nil, or_false] at hi
  subst hi
  refine wpOp_step rfl (fun K hK => ?_)
  go_simp
  with_reducible refine (HD.out W0 (HS.out.below q0 HLT.out.1)).mono ?_
  rintro e v1 ⟨rfl, hB⟩
  have q1 := q0.trans (hB.mono q0.size)
  clear hB
  have hS1 : (fun W' : World => W'.cell? ⟨X, 0, none⟩ = some (.slice (some ⟨bS, 0, none⟩) nS capS) ∧ W'.cell? ⟨X + 1, 0, none⟩ = some (.slice (some ⟨b, 0, none⟩) n cap) ∧ W'.cell? ⟨X + 2, 0, none⟩ = some (.int .i64 (wl : Int)) ∧ W'.cell? ⟨b, k * 2 + 1, none⟩ = some (.int .i64 v)) v1 := ⟨(q1.cell (p := ⟨X, 0, none⟩) (by show X < w.heap.size; have := HLT.out; omega)).trans H0.out, (q1.cell (p := ⟨X + 1, 0, none⟩) (by show X + 1 < w.heap.size; have := HLT.out; omega)).trans H1.out, (q1.cell (p := ⟨X + 2, 0, none⟩) HLT.out.2.2).trans H2.out, (q1.cell (p := ⟨b, k * 2 + 1, none⟩) HLT.out.2.1).trans C3.out⟩
  refine hK _ _ ⟨hS1, ?_⟩
  try simp only [Act.put, List.setIfInBounds_toArray, List.set_cons_zero, List.set_cons_succ]
  clear hK K
  refine wpAnyH_takeD (some 14) (i := 8) (v := ?_) rfl rfl (by kernel_rfl) (by kernel_rfl) (by kernel_rfl) (fun _ _ _ h => h) (.inl ⟨by kernel_rfl, ?_⟩) hS1 ?_
  rotate_left
  · intro w' hw'; obtain ⟨g1, g2, g3, g4⟩ := hw'; go_simp; try with_reducible rfl
  try simp only [Act.put, List.setIfInBounds_toArray, List.set_cons_zero, List.set_cons_succ]
  refine wpAnyH_takeD (some 5) (i := 9) (v := ?_) rfl rfl (by kernel_rfl) (by kernel_rfl) (by kernel_rfl) (fun _ _ _ h => h) (.inl ⟨by kernel_rfl, ?_⟩) hS1 ?_
  rotate_left
  · intro w' hw'; go_simp; try with_reducible rfl
  try simp only [Act.put, List.setIfInBounds_toArray, List.set_cons_zero, List.set_cons_succ]
  refine wpAnyH_done (by kernel_rfl) ?_ _
  have Q1 := hid q1
  clear hS0 hS1 q0 q1
  go_wp2_with fail
  go_ret
  exact ⟨rfl, Q1.out⟩
set_option maxRecDepth 100000 in
set_option maxHeartbeats 4000000 in
theorem above_any (bS nS capS : Nat) (zs : List Int) (hnS : nS = zs.length) (hv : okL zs = true) (wl : Nat) (hwl : wl < zs.length) (d v : Int) (hrv : 0 ≤ v ∧ v ≤ 1000000000000) (X : Nat) (w : World) (hS : Stk w bS zs) (hX : X + 1 < w.heap.size)
    (h0 : w.cell? ⟨X, 0, none⟩ = some (.slice (some ⟨bS, 0, none⟩) nS capS)) (h1 : w.cell? ⟨X + 1, 0, none⟩ = some (.int .i64 (wl : Int))) :
    Calls Try.prog 54 #[.agg #[.int .i64 d, .int .i64 v], .pointer (some ⟨X, 0, none⟩), .pointer (some ⟨X + 1, 0, none⟩)] w (GivesB w (.int .i64 (v / szL (zs.take (wl + 1))))) := by
  obtain ⟨_, h8, hin, _, _⟩ := okL_out hv
  have HC := hid (fun W s => cycle_any bS nS capS wl zs hnS (by omega) (by rw [hnS]; exact hin) (by omega) W s)
  have hb := szL_bd zs (wl + 1) (by omega) (fun j hj => hin j (by omega))
  obtain ⟨c, hc⟩ : ∃ c, szL (zs.take (wl + 1)) = c := ⟨_, rfl⟩
  rw [hc] at HC hb ⊢
  have hc0 : c ≠ 0 := by omega
  have e2 : v.tdiv c = v / c := Int.tdiv_eq_ediv_of_nonneg hrv.1
  have h3 : 0 ≤ v / c ∧ v / c ≤ 1000000000000 := ⟨Int.ediv_nonneg hrv.1 (by omega), Int.le_trans (Int.ediv_le_self _ hrv.1) hrv.2⟩
  have w3 : IntKind.i64.wrap (v / c) = v / c := IntWalk.i64_in _ (by omega)
  have rG := Row.new w 38 [.int .i64 d, .int .i64 v]
  obtain ⟨G, hG⟩ : ∃ G, w.heap.size = G := ⟨_, rfl⟩
  obtain ⟨V, hV⟩ : ∃ V, V = w.alloc (.cells #[.int .i64 d, .int .i64 v] 38) := ⟨_, rfl⟩
  have bV : Below w.heap.size w V := by rw [hV]; exact (Below.refl _ w).alloc (Nat.le_refl _) _
  rw [← hV] at rG
  rw [hG] at rG
  have HLT := hid (show bS < w.heap.size ∧ X + 1 < w.heap.size from ⟨hS.1, hX⟩)
  have H0 := hid ((bV.cell (p := ⟨X, 0, none⟩) (by show X < w.heap.size; omega)).trans h0)
  have H1 := hid ((bV.cell (p := ⟨X + 1, 0, none⟩) hX).trans h1)
  have HS := hid (hS.below bV hS.1)
  have HLV := hid (show bS < V.heap.size ∧ X + 1 < V.heap.size by have := bV.size; have := HLT.out; omega)
  have RG := hid rG; have BV := hid bV; have HV := hid hV; have HG := hid hG
  clear hS hnS hv hwl hrv hX h0 h1 h8 hin hb hc rG bV hV hG h3
  go_enter Try.func54, Try.ntmps54
  go_upto_region 1 with fail
  rw [← HV.out]
  try rw [HG.out]
  refine wp_region_held (S := fun W' : World => W'.cell? ⟨X, 0, none⟩ = some (.slice (some ⟨bS, 0, none⟩) nS capS) ∧ W'.cell? ⟨X + 1, 0, none⟩ = some (.int .i64 (wl : Int)) ∧ W'.cell? ⟨G, 1, none⟩ = some (.int .i64 v)) (by kernel_rfl) ?_
  change wpAnyH _ _ _ _ _ _ _ _ (World.drew _)
  obtain ⟨W0, hW0⟩ : ∃ X, X = World.drew V := ⟨_, rfl⟩
  have q0 : Below V.heap.size V W0 := by rw [hW0]; exact (Below.refl _ _).drew
  have hS0 : (fun W' : World => W'.cell? ⟨X, 0, none⟩ = some (.slice (some ⟨bS, 0, none⟩) nS capS) ∧ W'.cell? ⟨X + 1, 0, none⟩ = some (.int .i64 (wl : Int)) ∧ W'.cell? ⟨G, 1, none⟩ = some (.int .i64 v)) W0 := ⟨(q0.cell (p := ⟨X, 0, none⟩) (by show X < V.heap.size; have := HLV.out; omega)).trans H0.out, (q0.cell (p := ⟨X + 1, 0, none⟩) HLV.out.2).trans H1.out, (q0.cell (p := ⟨G, 1, none⟩) RG.out.lt).trans (RG.out.cell 1)⟩
  rw [← hW0]
  clear hW0
  refine wpAnyH_takeD (some 5) (i := 0) (v := ?_) rfl rfl (by kernel_rfl) (by kernel_rfl) (by kernel_rfl) (fun _ _ _ h => h) (.inl ⟨by kernel_rfl, ?_⟩) hS0 ?_
  rotate_left
  · intro w' hw'; obtain ⟨g1, g2, g3⟩ := hw'; go_simp; try with_reducible rfl
  try simp only [Act.put, List.setIfInBounds_toArray, List.set_cons_zero, List.set_cons_succ]
  refine wpAnyH_takeD (some 6) (i := 1) (v := ?_) rfl rfl (by kernel_rfl) (by kernel_rfl) (by kernel_rfl) (fun _ _ _ h => h) (.inl ⟨by kernel_rfl, ?_⟩) hS0 ?_
  rotate_left
  · intro w' hw'; obtain ⟨g1, g2, g3⟩ := hw'; go_simp; try with_reducible rfl
  try simp only [Act.put, List.setIfInBounds_toArray, List.set_cons_zero, List.set_cons_succ]
  refine wpAnyH_takeD (some 7) (i := 2) (v := ?_) rfl rfl (by kernel_rfl) (by kernel_rfl) (by kernel_rfl) (fun _ _ _ h => h) (.inl ⟨by kernel_rfl, ?_⟩) hS0 ?_
  rotate_left
  · intro w' hw'; obtain ⟨g1, g2, g3⟩ := hw'; go_simp; try with_reducible rfl
  try simp only [Act.put, List.setIfInBounds_toArray, List.set_cons_zero, List.set_cons_succ]
  refine wpAnyH_takeD (some 8) (i := 3) (v := ?_) rfl rfl (by kernel_rfl) (by kernel_rfl) (by kernel_rfl) (fun _ _ _ h => h) (.inl ⟨by kernel_rfl, ?_⟩) hS0 ?_
  rotate_left
  · intro w' hw'; obtain ⟨g1, g2, g3⟩ := hw'; go_simp; try with_reducible rfl
  try simp only [Act.put, List.setIfInBounds_toArray, List.set_cons_zero, List.set_cons_succ]
  refine wpAnyH_all (rs := [4]) (by kernel_rfl) (by simp) ?_
  intro i hi; simp only [List.mem_cons, List.not_mem_nil, or_false] at hi
  subst hi
  refine wpOp_step rfl (fun K hK => ?_)
  go_simp
  with_reducible refine (HC.out W0 (HS.out.below q0 HLV.out.1)).mono ?_
  rintro e v1 ⟨rfl, hB⟩
  have q1 := q0.trans (hB.mono q0.size)
  clear hB
  have hS1 : (fun W' : World => W'.cell? ⟨X, 0, none⟩ = some (.slice (some ⟨bS, 0, none⟩) nS capS) ∧ W'.cell? ⟨X + 1, 0, none⟩ = some (.int .i64 (wl : Int)) ∧ W'.cell? ⟨G, 1, none⟩ = some (.int .i64 v)) v1 := ⟨(q1.cell (p := ⟨X, 0, none⟩) (by show X < V.heap.size; have := HLV.out; omega)).trans H0.out, (q1.cell (p := ⟨X + 1, 0, none⟩) HLV.out.2).trans H1.out, (q1.cell (p := ⟨G, 1, none⟩) RG.out.lt).trans (RG.out.cell 1)⟩
  refine hK _ _ ⟨hS1, ?_⟩
  try simp only [Act.put, List.setIfInBounds_toArray, List.set_cons_zero, List.set_cons_succ]
  clear hK K
  refine wpAnyH_takeD (some 10) (i := 5) (v := ?_) rfl rfl (by kernel_rfl) (by kernel_rfl) (by kernel_rfl) (fun _ _ _ h => h) (.inl ⟨by kernel_rfl, ?_⟩) hS1 ?_
  rotate_left
  · intro w' hw'; go_simp; try with_reducible rfl
  try simp only [Act.put, List.setIfInBounds_toArray, List.set_cons_zero, List.set_cons_succ]
  refine wpAnyH_takeD (some 4) (i := 6) (v := ?_) rfl rfl (by kernel_rfl) (by kernel_rfl) (by kernel_rfl) (fun _ _ _ h => h) (.inl ⟨by kernel_rfl, ?_⟩) hS1 ?_
  rotate_left
  · intro w' hw'; go_simp; try with_reducible rfl
  try simp only [Act.put, List.setIfInBounds_toArray, List.set_cons_zero, List.set_cons_succ]
  refine wpAnyH_done (by kernel_rfl) ?_ _
  have Q1 := hid (BV.out.trans (q1.mono BV.out.size))
  clear hS0 hS1 q0 q1
  go_wp2_with fail
  go_ret
  exact ⟨rfl, Q1.out⟩
set_option maxRecDepth 100000 in
set_option maxHeartbeats 4000000 in
theorem left_any (bS nS capS : Nat) (zs : List Int) (hnS : nS = zs.length) (hv : okL zs = true) (wl : Nat) (hwl : wl < zs.length) (d v : Int) (hrv : 0 ≤ v ∧ v ≤ 1000000000000) (b o m cp : Nat) (hm : 0 < m) (d0 v0 : Int) (hrv0 : 0 ≤ v0 ∧ v0 ≤ 1000000000000) (X : Nat) (w : World) (hS : Stk w bS zs) (hb : b < w.heap.size) (hX : X + 3 < w.heap.size)
    (h0 : w.cell? ⟨X, 0, none⟩ = some (.slice (some ⟨bS, 0, none⟩) nS capS)) (h1 : w.cell? ⟨X + 1, 0, none⟩ = some (.int .i64 (wl : Int))) (h2 : w.cell? ⟨X + 2, 0, none⟩ = some (.slice (some ⟨b, o, none⟩) m cp)) (h3 : w.cell? ⟨X + 3, 0, none⟩ = some (.func (.func 54) #[] #[.pointer (some ⟨X, 0, none⟩), .pointer (some ⟨X + 1, 0, none⟩)])) (h4 : w.cell? ⟨b, o, none⟩ = some (.int .i64 d0)) (h5 : w.cell? ⟨b, o + 1, none⟩ = some (.int .i64 v0)) :
    Calls Try.prog 57 #[.agg #[.int .i64 d, .int .i64 v], .pointer (some ⟨X + 3, 0, none⟩), .pointer (some ⟨X + 2, 0, none⟩)] w (GivesB w (.bool (v / szL (zs.take (wl + 1)) != v0 / szL (zs.take (wl + 1))))) := by
  have HA := hid (fun W s a1 a2 a3 => above_any bS nS capS zs hnS hv wl hwl d v hrv X W s a1 a2 a3)
  have HA0 := hid (fun W s a1 a2 a3 => above_any bS nS capS zs hnS hv wl hwl d0 v0 hrv0 X W s a1 a2 a3)
  obtain ⟨r, hr⟩ : ∃ r, v / szL (zs.take (wl + 1)) = r := ⟨_, rfl⟩
  obtain ⟨r0, hr0⟩ : ∃ r, v0 / szL (zs.take (wl + 1)) = r := ⟨_, rfl⟩
  rw [hr] at HA ⊢
  rw [hr0] at HA0 ⊢
  have hm0 : (0 : Int) < (m : Int) := by omega
  have rG := Row.new w 38 [.int .i64 d, .int .i64 v]
  obtain ⟨G, hG⟩ : ∃ G, w.heap.size = G := ⟨_, rfl⟩
  obtain ⟨V, hV⟩ : ∃ V, V = w.alloc (.cells #[.int .i64 d, .int .i64 v] 38) := ⟨_, rfl⟩
  have bV : Below w.heap.size w V := by rw [hV]; exact (Below.refl _ w).alloc (Nat.le_refl _) _
  rw [← hV] at rG
  rw [hG] at rG
  have HLT := hid (show bS < w.heap.size ∧ X + 3 < w.heap.size from ⟨hS.1, hX⟩)
  have H0 := hid ((bV.cell (p := ⟨X, 0, none⟩) (by show X < w.heap.size; omega)).trans h0)
  have H1 := hid ((bV.cell (p := ⟨X + 1, 0, none⟩) (by show X + 1 < w.heap.size; omega)).trans h1)
  have H2 := hid ((bV.cell (p := ⟨X + 2, 0, none⟩) (by show X + 2 < w.heap.size; omega)).trans h2)
  have H3 := hid ((bV.cell (p := ⟨X + 3, 0, none⟩) hX).trans h3)
  have H4 := hid ((bV.cell (p := ⟨b, o, none⟩) hb).trans h4)
  have H5 := hid ((bV.cell (p := ⟨b, o + 1, none⟩) hb).trans h5)
  have HS := hid (hS.below bV hS.1)
  have HLV := hid (show bS < V.heap.size ∧ b < V.heap.size ∧ X + 3 < V.heap.size by have := bV.size; have := HLT.out; omega)
  have RG := hid rG; have BV := hid bV; have HV := hid hV; have HG := hid hG
  clear hS hnS hv hwl hrv hrv0 hX h0 h1 h2 h3 h4 h5 rG bV hV hG hr hr0 hb
  go_enter Try.func57, Try.ntmps57
  go_upto_region 1 with fail
  rw [← HV.out]
  try rw [HG.out]
  refine wp_region_held (S := fun W' : World => W'.cell? ⟨X + 2, 0, none⟩ = some (.slice (some ⟨b, o, none⟩) m cp) ∧ W'.cell? ⟨X + 3, 0, none⟩ = some (.func (.func 54) #[] #[.pointer (some ⟨X, 0, none⟩), .pointer (some ⟨X + 1, 0, none⟩)]) ∧ W'.cell? ⟨b, o, none⟩ = some (.int .i64 d0) ∧ W'.cell? ⟨b, o + 1, none⟩ = some (.int .i64 v0) ∧ W'.cell? ⟨G, 0, none⟩ = some (.int .i64 d) ∧ W'.cell? ⟨G, 1, none⟩ = some (.int .i64 v)) (by kernel_rfl) ?_
  change wpAnyH _ _ _ _ _ _ _ _ (World.drew _)
  obtain ⟨W0, hW0⟩ : ∃ X, X = World.drew V := ⟨_, rfl⟩
  have q0 : Below V.heap.size V W0 := by rw [hW0]; exact (Below.refl _ _).drew
  have hS0 : (fun W' : World => W'.cell? ⟨X + 2, 0, none⟩ = some (.slice (some ⟨b, o, none⟩) m cp) ∧ W'.cell? ⟨X + 3, 0, none⟩ = some (.func (.func 54) #[] #[.pointer (some ⟨X, 0, none⟩), .pointer (some ⟨X + 1, 0, none⟩)]) ∧ W'.cell? ⟨b, o, none⟩ = some (.int .i64 d0) ∧ W'.cell? ⟨b, o + 1, none⟩ = some (.int .i64 v0) ∧ W'.cell? ⟨G, 0, none⟩ = some (.int .i64 d) ∧ W'.cell? ⟨G, 1, none⟩ = some (.int .i64 v)) W0 := ⟨(q0.cell (p := ⟨X + 2, 0, none⟩) (by show X + 2 < V.heap.size; have := HLV.out; omega)).trans H2.out, (q0.cell (p := ⟨X + 3, 0, none⟩) HLV.out.2.2).trans H3.out, (q0.cell (p := ⟨b, o, none⟩) HLV.out.2.1).trans H4.out, (q0.cell (p := ⟨b, o + 1, none⟩) HLV.out.2.1).trans H5.out, (q0.cell (p := ⟨G, 0, none⟩) RG.out.lt).trans (RG.out.cell 0), (q0.cell (p := ⟨G, 1, none⟩) RG.out.lt).trans (RG.out.cell 1)⟩
  rw [← hW0]
  clear hW0
  refine wpAnyH_takeD (some 5) (i := 0) (v := ?_) rfl rfl (by kernel_rfl) (by kernel_rfl) (by kernel_rfl) (fun _ _ _ h => h) (.inl ⟨by kernel_rfl, ?_⟩) hS0 ?_
  rotate_left
  · intro w' hw'; obtain ⟨g1, g2, g3, g4, g5, g6⟩ := hw'; go_simp; try with_reducible rfl
  try simp only [Act.put, List.setIfInBounds_toArray, List.set_cons_zero, List.set_cons_succ]
  refine wpAnyH_takeD (some 6) (i := 1) (v := ?_) rfl rfl (by kernel_rfl) (by kernel_rfl) (by kernel_rfl) (fun _ _ _ h => h) (.inl ⟨by kernel_rfl, ?_⟩) hS0 ?_
  rotate_left
  · intro w' hw'; obtain ⟨g1, g2, g3, g4, g5, g6⟩ := hw'; go_simp; try with_reducible rfl
  try simp only [Act.put, List.setIfInBounds_toArray, List.set_cons_zero, List.set_cons_succ]
  refine wpAnyH_takeD (some 8) (i := 3) (v := ?_) rfl rfl (by kernel_rfl) (by kernel_rfl) (by kernel_rfl) (fun _ _ _ h => h) (.inl ⟨by kernel_rfl, ?_⟩) hS0 ?_
  rotate_left
  · intro w' hw'; obtain ⟨g1, g2, g3, g4, g5, g6⟩ := hw'; go_simp; try with_reducible rfl
  try simp only [Act.put, List.setIfInBounds_toArray, List.set_cons_zero, List.set_cons_succ]
  refine wpAnyH_takeD (some 9) (i := 4) (v := ?_) rfl rfl (by kernel_rfl) (by kernel_rfl) (by kernel_rfl) (fun _ _ _ h => h) (.inl ⟨by kernel_rfl, ?_⟩) hS0 ?_
  rotate_left
  · intro w' hw'; obtain ⟨g1, g2, g3, g4, g5, g6⟩ := hw'; go_simp; try with_reducible rfl
  try simp only [Act.put, List.setIfInBounds_toArray, List.set_cons_zero, List.set_cons_succ]
  refine wpAnyH_takeD (some 10) (i := 5) (v := ?_) rfl rfl (by kernel_rfl) (by kernel_rfl) (by kernel_rfl) (fun _ _ _ h => h) (.inl ⟨by kernel_rfl, ?_⟩) hS0 ?_
  rotate_left
  · intro w' hw'; obtain ⟨g1, g2, g3, g4, g5, g6⟩ := hw'; go_simp; try with_reducible rfl
  try simp only [Act.put, List.setIfInBounds_toArray, List.set_cons_zero, List.set_cons_succ]
  refine wpAnyH_takeD (some 11) (i := 6) (v := ?_) rfl rfl (by kernel_rfl) (by kernel_rfl) (by kernel_rfl) (fun _ _ _ h => h) (.inl ⟨by kernel_rfl, ?_⟩) hS0 ?_
  rotate_left
  · intro w' hw'; obtain ⟨g1, g2, g3, g4, g5, g6⟩ := hw'; go_simp; try with_reducible rfl
  try simp only [Act.put, List.setIfInBounds_toArray, List.set_cons_zero, List.set_cons_succ]
  refine wpAnyH_all (rs := [2]) (by kernel_rfl) (by simp) ?_
  intro i hi; simp only [List.mem_cons, List.not_mem_nil, or_false] at hi
  subst hi
  refine wpOp_step rfl (fun K hK => ?_)
  go_simp
  with_reducible refine (HA.out W0 (HS.out.below q0 HLV.out.1) (by have := q0.size; have := HLV.out; omega) ((q0.cell (p := ⟨X, 0, none⟩) (by show X < V.heap.size; have := HLV.out; omega)).trans H0.out) ((q0.cell (p := ⟨X + 1, 0, none⟩) (by show X + 1 < V.heap.size; have := HLV.out; omega)).trans H1.out)).mono ?_
  rintro e v1 ⟨rfl, hB⟩
  have q1 := q0.trans (hB.mono q0.size)
  clear hB
  have hS1 : (fun W' : World => W'.cell? ⟨X + 2, 0, none⟩ = some (.slice (some ⟨b, o, none⟩) m cp) ∧ W'.cell? ⟨X + 3, 0, none⟩ = some (.func (.func 54) #[] #[.pointer (some ⟨X, 0, none⟩), .pointer (some ⟨X + 1, 0, none⟩)]) ∧ W'.cell? ⟨b, o, none⟩ = some (.int .i64 d0) ∧ W'.cell? ⟨b, o + 1, none⟩ = some (.int .i64 v0) ∧ W'.cell? ⟨G, 0, none⟩ = some (.int .i64 d) ∧ W'.cell? ⟨G, 1, none⟩ = some (.int .i64 v)) v1 := ⟨(q1.cell (p := ⟨X + 2, 0, none⟩) (by show X + 2 < V.heap.size; have := HLV.out; omega)).trans H2.out, (q1.cell (p := ⟨X + 3, 0, none⟩) HLV.out.2.2).trans H3.out, (q1.cell (p := ⟨b, o, none⟩) HLV.out.2.1).trans H4.out, (q1.cell (p := ⟨b, o + 1, none⟩) HLV.out.2.1).trans H5.out, (q1.cell (p := ⟨G, 0, none⟩) RG.out.lt).trans (RG.out.cell 0), (q1.cell (p := ⟨G, 1, none⟩) RG.out.lt).trans (RG.out.cell 1)⟩
  refine hK _ _ ⟨hS1, ?_⟩
  try simp only [Act.put, List.setIfInBounds_toArray, List.set_cons_zero, List.set_cons_succ]
  clear hK K
  refine wpAnyH_all (rs := [7]) (by kernel_rfl) (by simp) ?_
  intro i hi; simp only [List.mem_cons, List.not_mem_nil, or_false] at hi
  subst hi
  refine wpOp_step rfl (fun K hK => ?_)
  go_simp
  with_reducible refine (HA0.out v1 (HS.out.below q1 HLV.out.1) (by have := q1.size; have := HLV.out; omega) ((q1.cell (p := ⟨X, 0, none⟩) (by show X < V.heap.size; have := HLV.out; omega)).trans H0.out) ((q1.cell (p := ⟨X + 1, 0, none⟩) (by show X + 1 < V.heap.size; have := HLV.out; omega)).trans H1.out)).mono ?_
  rintro e v2 ⟨rfl, hB⟩
  have q2 := q1.trans (hB.mono q1.size)
  clear hB
  have hS2 : (fun W' : World => W'.cell? ⟨X + 2, 0, none⟩ = some (.slice (some ⟨b, o, none⟩) m cp) ∧ W'.cell? ⟨X + 3, 0, none⟩ = some (.func (.func 54) #[] #[.pointer (some ⟨X, 0, none⟩), .pointer (some ⟨X + 1, 0, none⟩)]) ∧ W'.cell? ⟨b, o, none⟩ = some (.int .i64 d0) ∧ W'.cell? ⟨b, o + 1, none⟩ = some (.int .i64 v0) ∧ W'.cell? ⟨G, 0, none⟩ = some (.int .i64 d) ∧ W'.cell? ⟨G, 1, none⟩ = some (.int .i64 v)) v2 := ⟨(q2.cell (p := ⟨X + 2, 0, none⟩) (by show X + 2 < V.heap.size; have := HLV.out; omega)).trans H2.out, (q2.cell (p := ⟨X + 3, 0, none⟩) HLV.out.2.2).trans H3.out, (q2.cell (p := ⟨b, o, none⟩) HLV.out.2.1).trans H4.out, (q2.cell (p := ⟨b, o + 1, none⟩) HLV.out.2.1).trans H5.out, (q2.cell (p := ⟨G, 0, none⟩) RG.out.lt).trans (RG.out.cell 0), (q2.cell (p := ⟨G, 1, none⟩) RG.out.lt).trans (RG.out.cell 1)⟩
  refine hK _ _ ⟨hS2, ?_⟩
  try simp only [Act.put, List.setIfInBounds_toArray, List.set_cons_zero, List.set_cons_succ]
  clear hK K
  refine wpAnyH_takeD (some 13) (i := 8) (v := ?_) rfl rfl (by kernel_rfl) (by kernel_rfl) (by kernel_rfl) (fun _ _ _ h => h) (.inl ⟨by kernel_rfl, ?_⟩) hS2 ?_
  rotate_left
  · intro w' hw'; go_simp; try with_reducible rfl
  try simp only [Act.put, List.setIfInBounds_toArray, List.set_cons_zero, List.set_cons_succ]
  refine wpAnyH_takeD (some 4) (i := 9) (v := ?_) rfl rfl (by kernel_rfl) (by kernel_rfl) (by kernel_rfl) (fun _ _ _ h => h) (.inl ⟨by kernel_rfl, ?_⟩) hS2 ?_
  rotate_left
  · intro w' hw'; go_simp; try with_reducible rfl
  try simp only [Act.put, List.setIfInBounds_toArray, List.set_cons_zero, List.set_cons_succ]
  refine wpAnyH_done (by kernel_rfl) ?_ _
  have Q1 := hid (BV.out.trans (q2.mono BV.out.size))
  clear hS0 hS1 hS2 q0 q1 q2
  go_wp2_with fail
  go_ret
  exact ⟨rfl, Q1.out⟩
set_option maxRecDepth 100000 in
set_option maxHeartbeats 4000000 in
theorem indexM_any (b o m cp : Nat) (D V : Nat → Int) (P : Nat → Bool) (X : Nat) (w : World) (hb : b < w.heap.size) (hm : m ≤ 1048576)
    (hC : ∀ j, j < m → w.cell? ⟨b, o + j * 2, none⟩ = some (.int .i64 (D j)) ∧ w.cell? ⟨b, o + j * 2 + 1, none⟩ = some (.int .i64 (V j)))
    (hF : ∀ j W, j < m → Below w.heap.size w W → Calls Try.prog 57 #[.agg #[.int .i64 (D j), .int .i64 (V j)], .pointer (some ⟨X + 3, 0, none⟩), .pointer (some ⟨X + 2, 0, none⟩)] W (GivesB W (.bool (P j)))) :
    Calls Try.prog 62 #[.slice (some ⟨b, o, none⟩) m cp, .func (Fn.func 57) #[] #[.pointer (some ⟨X + 3, 0, none⟩), .pointer (some ⟨X + 2, 0, none⟩)]] w fun e w' => (∃ x : Int, e = .returned (.int .i64 x) ∧ ((anyB P m = false ∧ x = -1) ∨ (anyB P m = true ∧ 0 ≤ x ∧ x ≤ 1048576))) ∧ Below w.heap.size w w' := by
  have HC := hid hC; have HF := hid hF; have HM := hid hm; have HB0 := hid hb
  clear hC hF hm hb
  go_enter Try.func62, Try.ntmps62
  go_wp2_with fail
  go_loopw [8] (fun i wr => ∃ k : Nat, k ≤ m ∧ i = .int .i64 k ∧ anyB P k = false ∧ Below w.heap.size w wr) (fun i _ => m - (intOf i).toNat)
  case atStart => exact ⟨0, Nat.zero_le _, rfl, rfl, Below.refl _ _⟩
  case round =>
    obtain ⟨k, hk, rfl, hto, hB⟩ := hrel
    have hzr := hB.size
    by_cases hkn : k < m
    · obtain ⟨y0, y1⟩ := HC.out k hkn
      have x0 := (hB.cell (p := ⟨b, o + k * 2, none⟩) HB0.out).trans y0
      have x1 := (hB.cell (p := ⟨b, o + k * 2 + 1, none⟩) HB0.out).trans y1
      have HG := hid (HF.out k wr hkn hB)
      have HTO := hid (anyB_snoc P k)
      have HT0 := hid hto
      have HBD := hid (fun h => anyB_yes (P := P) hkn h)
      obtain ⟨r, hr⟩ : ∃ r, P k = r := ⟨_, rfl⟩
      rw [hr] at HG HTO HBD
      obtain ⟨p, hp⟩ : ∃ y, D k = y := ⟨_, rfl⟩
      obtain ⟨q, hq⟩ : ∃ y, V k = y := ⟨_, rfl⟩
      rw [hp] at x0 HG
      rw [hq] at x1 HG
      have k0 : (0 : Int) ≤ (k : Int) := by omega
      have k1 : (k : Int) < (m : Int) := by omega
      have w1' : IntKind.i64.wrap ((k : Int) + 1) = (k : Int) + 1 := IntWalk.i64_in _ (by have := HM.out; omega)
      have HB := hid hB
      clear hr hp hq hto hB y0 y1
      cases r
      · go_wp2_with fail
        refine HG.out.mono ?_
        rintro e w1 ⟨rfl, hB1⟩
        have HB1 := hid (HB.out.trans (hB1.mono hzr))
        clear hB1
        go_wp2_with fail
        go_roundw
        case rel => exact ⟨k + 1, by omega, by go_num, by rw [HTO.out, HT0.out]; rfl, HB1.out⟩
        case measure => simp [intOf]; omega
      · go_wp2_with fail
        refine HG.out.mono ?_
        rintro e w1 ⟨rfl, hB1⟩
        go_wp2_with fail
        go_ret
        exact ⟨⟨_, rfl, .inr ⟨HBD.out (by simp), by omega, by have := HM.out; omega⟩⟩, HB.out.trans (hB1.mono hzr)⟩
    · obtain rfl : k = m := by omega
      have k1 : ¬ (k : Int) < (k : Int) := by omega
      have HO := hid hto
      clear hto
      go_wp2_with fail
      go_ret
      exact ⟨⟨_, rfl, .inl ⟨HO.out, rfl⟩⟩, hB⟩
set_option maxRecDepth 100000 in
set_option maxHeartbeats 4000000 in
theorem containsM_any (b o m cp : Nat) (D V : Nat → Int) (P : Nat → Bool) (X : Nat) (w : World) (hb : b < w.heap.size) (hm : m ≤ 1048576)
    (hC : ∀ j, j < m → w.cell? ⟨b, o + j * 2, none⟩ = some (.int .i64 (D j)) ∧ w.cell? ⟨b, o + j * 2 + 1, none⟩ = some (.int .i64 (V j)))
    (hF : ∀ j W, j < m → Below w.heap.size w W → Calls Try.prog 57 #[.agg #[.int .i64 (D j), .int .i64 (V j)], .pointer (some ⟨X + 3, 0, none⟩), .pointer (some ⟨X + 2, 0, none⟩)] W (GivesB W (.bool (P j)))) :
    Calls Try.prog 56 #[.slice (some ⟨b, o, none⟩) m cp, .func (Fn.func 57) #[] #[.pointer (some ⟨X + 3, 0, none⟩), .pointer (some ⟨X + 2, 0, none⟩)]] w (GivesB w (.bool (anyB P m))) := by
  have HI := hid (indexM_any b o m cp D V P X w hb hm hC hF)
  clear hb hm hC hF
  go_enter Try.func56, Try.ntmps56
  go_wp2_with fail
  refine HI.out.mono ?_
  rintro e w1 ⟨⟨x, rfl, hx⟩, hB1⟩
  rcases hx with ⟨h1, rfl⟩ | ⟨h1, h2, h3⟩
  · go_wp2_with fail
    go_ret
    exact ⟨by rw [h1]; rfl, hB1⟩
  · go_wp2_with fail
    go_ret
    exact ⟨by rw [h1]; rfl, hB1⟩
set_option maxRecDepth 100000 in
set_option maxHeartbeats 4000000 in
theorem moves_any (bS nS capS : Nat) (zs : List Int) (hnS : nS = zs.length) (hv : okL zs = true) (wl : Nat) (hwl : wl < zs.length) (b n : Nat) (js : List (Int × Int)) (hn : n = js.length) (hrv : ∀ j, j < n → 0 ≤ rv js j ∧ rv js j ≤ 1000000000000) (k m cp : Nat) (hkm : k + m = n) (w : World) (hS : Stk w bS zs) (hR : Rst w b js) :
    Calls Try.prog 40 #[.slice (some ⟨bS, 0, none⟩) nS capS, .int .i64 (wl : Int), .slice (some ⟨b, k * 2, none⟩) m cp] w (GivesB w (.bool (anyB (movP zs js wl k) n))) := by
  have hP : anyB (movP zs js wl k) n = anyB (fun j => rv js (k + j) / szL (zs.take (wl + 1)) != rv js k / szL (zs.take (wl + 1))) m := by
    rw [← hkm, anyB_from _ k (fun j hj => by unfold movP; rw [decide_eq_false (by omega)]; rfl)]
    refine anyB_cong m (fun j hj => ?_)
    unfold movP
    by_cases c : j = 0
    · subst c; simp
    · rw [decide_eq_true (show k < k + j by omega), Bool.true_and]
      exact bne_comm
  rw [hP]
  have hm : m ≤ 1048576 := by have := hR.2.2; omega
  have HCM := hid (fun (W : World) (X : Nat) (s : Stk W bS zs) (r : Rst W b js) (a3 : X + 3 < W.heap.size) (h0 : W.cell? ⟨X, 0, none⟩ = some (.slice (some ⟨bS, 0, none⟩) nS capS)) (h1 : W.cell? ⟨X + 1, 0, none⟩ = some (.int .i64 (wl : Int))) (h2 : W.cell? ⟨X + 2, 0, none⟩ = some (.slice (some ⟨b, k * 2, none⟩) m cp)) (h3 : W.cell? ⟨X + 3, 0, none⟩ = some (.func (.func 54) #[] #[.pointer (some ⟨X, 0, none⟩), .pointer (some ⟨X + 1, 0, none⟩)])) =>
    containsM_any b (k * 2) m cp (fun j => rd js (k + j)) (fun j => rv js (k + j)) (fun j => rv js (k + j) / szL (zs.take (wl + 1)) != rv js k / szL (zs.take (wl + 1))) X W r.1 hm
      (fun j hj => by
        have := r.2.1 (k + j) (by omega)
        rw [Nat.add_mul] at this
        exact this)
      (fun j W2 hj hB => by
        have r2 := r.below hB r.1
        have c0 := r2.2.1 k (by omega)
        exact left_any bS nS capS zs hnS hv wl hwl (rd js (k + j)) (rv js (k + j)) (hrv (k + j) (by omega)) b (k * 2) m cp (by omega) (rd js k) (rv js k) (hrv k (by omega)) X W2 (s.below hB s.1) r2.1 (Nat.lt_of_lt_of_le a3 hB.size)
          ((hB.cell (p := ⟨X, 0, none⟩) (by show X < W.heap.size; omega)).trans h0) ((hB.cell (p := ⟨X + 1, 0, none⟩) (by show X + 1 < W.heap.size; omega)).trans h1) ((hB.cell (p := ⟨X + 2, 0, none⟩) (by show X + 2 < W.heap.size; omega)).trans h2) ((hB.cell (p := ⟨X + 3, 0, none⟩) a3).trans h3) c0.1 c0.2))
  obtain ⟨res, hres⟩ : ∃ r, anyB (fun j => rv js (k + j) / szL (zs.take (wl + 1)) != rv js k / szL (zs.take (wl + 1))) m = r := ⟨_, rfl⟩
  rw [hres] at HCM ⊢
  have r0 := Row.new w 24 [.slice (some ⟨bS, 0, none⟩) nS capS]
  have r1 := Row.new (w.alloc (.cells #[.slice (some ⟨bS, 0, none⟩) nS capS] 24)) 2 [.int .i64 (wl : Int)]
  have r2 := Row.new ((w.alloc (.cells #[.slice (some ⟨bS, 0, none⟩) nS capS] 24)).alloc (.cells #[.int .i64 (wl : Int)] 2)) 25 [.slice (some ⟨b, k * 2, none⟩) m cp]
  simp only [World.size_alloc] at r1 r2
  obtain ⟨X, hX⟩ : ∃ F, w.heap.size = F := ⟨_, rfl⟩
  obtain ⟨V, hV⟩ : ∃ V, V = ((w.alloc (.cells #[.slice (some ⟨bS, 0, none⟩) nS capS] 24)).alloc (.cells #[.int .i64 (wl : Int)] 2)).alloc (.cells #[.slice (some ⟨b, k * 2, none⟩) m cp] 25) := ⟨_, rfl⟩
  have sV : V.heap.size = X + 3 := by rw [hV]; simp [hX]
  have bV : Below w.heap.size w V := by rw [hV]; exact (((Below.refl _ w).alloc (Nat.le_refl _) _).alloc (by simp) _).alloc (by simp; omega) _
  have x0 : Row V X 24 [.slice (some ⟨bS, 0, none⟩) nS capS] := by rw [hV, ← hX]; exact (r0.alloc _).alloc _
  have x1 : Row V (X + 1) 2 [.int .i64 (wl : Int)] := by rw [hV, ← hX]; exact r1.alloc _
  have x2 : Row V (X + 2) 25 [.slice (some ⟨b, k * 2, none⟩) m cp] := by rw [hV, ← hX]; exact r2
  have x3 := Row.new V 85 [.func (.func 54) #[] #[.pointer (some ⟨X, 0, none⟩), .pointer (some ⟨X + 1, 0, none⟩)]]
  have b2 : Below V.heap.size V (V.alloc (.cells #[.func (.func 54) #[] #[.pointer (some ⟨X, 0, none⟩), .pointer (some ⟨X + 1, 0, none⟩)]] 85)) := (Below.refl _ V).alloc (Nat.le_refl _) _
  obtain ⟨V2, hV2⟩ : ∃ V2, V2 = V.alloc (.cells #[.func (.func 54) #[] #[.pointer (some ⟨X, 0, none⟩), .pointer (some ⟨X + 1, 0, none⟩)]] 85) := ⟨_, rfl⟩
  rw [← hV2] at b2 x3
  rw [sV] at x3
  have x0 := x0.below b2 x0.lt; have x1 := x1.below b2 x1.lt; have x2 := x2.below b2 x2.lt
  have HS := hid ((hS.below bV hS.1).below b2 (Nat.lt_of_lt_of_le hS.1 bV.size)); have HR := hid ((hR.below bV hR.1).below b2 (Nat.lt_of_lt_of_le hR.1 bV.size))
  have bV := bV.trans (b2.mono bV.size)
  have X3 := hid x3; have HV2 := hid hV2
  have HCC := hid (HCM.out V2 X HS.out HR.out x3.lt (x0.cell 0) (x1.cell 0) (x2.cell 0) (x3.cell 0))
  have y2 := x2.cell 0
  simp only [List.getElem?_cons_zero] at y2
  have HV := hid hV; have HX := hid hX; have X0 := hid x0; have X1 := hid x1; have X2 := hid x2; have BV := hid bV; have SV := hid sV
  clear hS hR hn hnS hv hwl hrv hP hm hres r0 r1 r2 hX hV bV x0 x1 x2 x3 hkm b2 hV2 HCM sV
  go_enter Try.func40, Try.ntmps40
  go_upto_region 1 with fail
  rw [← HV.out]
  try simp only [HX.out]
  go_upto_region 2 with fail
  rw [← HV2.out]
  try simp only [SV.out]
  try rw [show X + 1 + 1 = X + 2 from rfl]
  go_wp2_with fail
  refine HCC.out.mono ?_
  rintro e w1 ⟨rfl, hB1⟩
  have Q := hid (BV.out.trans (hB1.mono BV.out.size))
  clear hB1 y2
  go_wp2_with fail
  go_ret
  exact ⟨rfl, Q.out⟩
end Go.Proofs.Ytofpgkbcodopiaa
