/- A wheel that seems to be stuck; the program's. -/
import Derived.Test.YtofpgkbcodopiaaSkP
import Derived.ScopeJumps
import Derived.WalkMore
namespace Go.Proofs.Ytofpgkbcodopiaa
open Go.RowKit
set_option linter.unusedVariables false
set_option linter.unusedSimpArgs false
theorem slice_rd (a : Option Addr) (b n cap k : Nat) (hk : k ≤ n) (hc : n ≤ cap) (hz : n = k → k = 0) (ha : a = some ⟨b, 0, none⟩) (W : World) :
    (Instr.slice 25 (.slice a n cap) (some (.int .i64 (k : Int))) (some (.int .i64 (n : Int))) (some (.int .i64 (n : Int)))).run Try.prog W = .ok (.slice (some ⟨b, k * 2, none⟩) (n - k) (n - k)) W := by
  rw [run_slice_lhm (P := Try.prog) (w := W) 25 a n cap (by kernel_rfl) .i64 .i64 .i64 (k : Int) (n : Int) (n : Int) (by omega) (by omega) (by omega) (by omega)]
  have hs : (sizeOf (Try.prog.elem 25)).run Try.prog W = .ok 2 W := by kernel_rfl
  rw [hs]
  simp only [Result.andThen, sliced, Int.toNat_natCast]
  by_cases c : n = k
  · have := hz c
    subst c
    subst ha
    rw [if_pos rfl, this]
  · rw [if_neg c, ha]
    simp [Addr.add]
    try (intro h; omega)
set_option maxRecDepth 100000 in
set_option maxHeartbeats 8000000 in
theorem implStuck_any (bS nS capS : Nat) (zs : List Int) (hnS : nS = zs.length) (b n cap : Nat) (js : List (Int × Int)) (hn : n = js.length) (x : Int) (w : World) (hS : Stk w bS zs) (hR : Rst w b js) (hcS : nS ≤ capS) (hcap : n ≤ cap) :
    Calls Try.prog 12 #[.slice (some ⟨bS, 0, none⟩) nS capS, .slice (some ⟨b, 0, none⟩) n cap, .int .i64 x] w (GivesB w (tup2 (stuckR zs js x).1 (stuckR zs js x).2)) := by
  have HA := hid (implValidLog_any bS nS capS zs hnS b n cap js hn)
  have r0 := Row.new w 24 [.slice (some ⟨bS, 0, none⟩) nS capS]
  have r1 := Row.new (w.alloc (.cells #[.slice (some ⟨bS, 0, none⟩) nS capS] 24)) 25 [.slice (some ⟨b, 0, none⟩) n cap]
  have r2 := Row.new ((w.alloc (.cells #[.slice (some ⟨bS, 0, none⟩) nS capS] 24)).alloc (.cells #[.slice (some ⟨b, 0, none⟩) n cap] 25)) 2 [.int .i64 x]
  simp only [World.size_alloc] at r1 r2
  obtain ⟨X, hX⟩ : ∃ F, w.heap.size = F := ⟨_, rfl⟩
  obtain ⟨V, hV⟩ : ∃ V, V = ((w.alloc (.cells #[.slice (some ⟨bS, 0, none⟩) nS capS] 24)).alloc (.cells #[.slice (some ⟨b, 0, none⟩) n cap] 25)).alloc (.cells #[.int .i64 x] 2) := ⟨_, rfl⟩
  have sV : V.heap.size = X + 3 := by rw [hV]; simp [hX]
  have bV : Below w.heap.size w V := by rw [hV]; exact (((Below.refl _ w).alloc (Nat.le_refl _) _).alloc (by simp) _).alloc (by simp; omega) _
  have x0 : Row V X 24 [.slice (some ⟨bS, 0, none⟩) nS capS] := by rw [hV, ← hX]; exact (r0.alloc _).alloc _
  have x1 : Row V (X + 1) 25 [.slice (some ⟨b, 0, none⟩) n cap] := by rw [hV, ← hX]; exact r1.alloc _
  have x2 : Row V (X + 2) 2 [.int .i64 x] := by rw [hV, ← hX]; exact r2
  have HS := hid (hS.below bV hS.1); have HR := hid (hR.below bV hR.1)
  have HLT := hid (show bS < V.heap.size ∧ b < V.heap.size ∧ X + 2 < V.heap.size from ⟨HS.out.1, HR.out.1, by omega⟩)
  have hA := hid (HA.out V HS.out HR.out)
  have HV := hid hV; have HX := hid hX; have X0 := hid x0; have X1 := hid x1; have X2 := hid x2; have BV := hid bV; have SV := hid sV
  have HNS := hid hnS; have HN := hid hn; have HCAP := hid hcap; have HCS := hid hcS
  have y0 := x0.cell 0; have y1 := x1.cell 0; have y2 := x2.cell 0
  simp only [List.getElem?_cons_zero, List.getElem?_cons_succ] at y0 y1 y2
  have HY := hid (And.intro y0 (And.intro y1 y2))
  clear HA hS hR r0 r1 r2 hX hV sV bV x0 x1 x2 hnS hn hcap hcS
  cases hg : okG zs js with
  | false =>
    rw [stuckR_log hg]
    unfold tup2
    rw [hg] at hA
    clear hg
    go_enter Try.func12, Try.ntmps12
    go_upto_region 1 with fail
    rw [← HV.out]
    try simp only [HX.out]
    try rw [show X + 1 + 1 = X + 2 from rfl]
    refine wp_scope_jumps 0 (fun _ _ => False) (fun _ _ => 0) rfl ?_ (fun _ _ h => h.elim)
    go_wp2_with fail
    with_reducible refine hA.out.mono ?_
    rintro e w1 ⟨rfl, hB⟩
    have Q := hid (BV.out.trans (hB.mono BV.out.size))
    clear hB y0 y1 y2
    go_wp2_with fail
    try simp only [Exit.jump]
    go_ret2
    exact ⟨by first | rfl | simp, Q.out⟩
  | true =>
    rw [hg] at hA
    obtain ⟨gv, g40, g1, g2⟩ := okG_out hg
    obtain ⟨_, h8, hin, z1, z2⟩ := okL_out gv
    have hn40 : n ≤ 40 := by have := HN.out; omega
    by_cases hx : 0 ≤ x ∧ x < zs.length
    · obtain ⟨wl, rfl⟩ : ∃ wl : Nat, x = (wl : Int) := ⟨x.toNat, by omega⟩
      have hwl : wl < zs.length := by omega
      have HW := hid (fun W => hasWheel_yes (some ⟨bS, 0, none⟩) nS capS (wl : Int) (by have := HNS.out; omega) W)
      have RV := hid (fun i (hi : i < n) => show 0 ≤ rv js i ∧ rv js i ≤ 1000000000000 from by have := okRd_out (g1 i (by have := HN.out; omega)); omega)
      have HDG := hid (fun (k : Nat) (hk : k < n) W s r a1 a2 a3 a4 => dig_any bS nS capS zs HNS.out b n cap js HN.out gv wl k hwl hk (RV.out k hk) X W s r a1 a2 a3 a4)
      have HMV := hid (fun (k : Nat) (hk : k ≤ n) W a1 a2 => moves_any bS nS capS zs HNS.out gv wl hwl b n js HN.out RV.out k (n - k) (n - k) (by omega) W a1 a2)
      have HYES := hid (fun h => stuckR_yes (w := wl) hg hwl h)
      have HNO := hid (fun h => stuckR_no (w := wl) hg hwl h)
      have HSN := hid (show sinceN zs js wl = backF (sameP zs js wl n) (n - 1) by unfold sinceN; rw [← HN.out])
      obtain ⟨R, hRR⟩ : ∃ R, stuckR zs js (wl : Int) = R := ⟨_, rfl⟩
      rw [hRR] at HYES HNO ⊢
      unfold tup2
      have wn : IntKind.i64.wrap ((n : Int) - 1) = (n : Int) - 1 := IntWalk.i64_in _ (by omega)
      obtain ⟨N1, hN1⟩ : ∃ N1 : Nat, n - 1 = N1 := ⟨_, rfl⟩
      obtain ⟨M, hM⟩ : ∃ M : Int, (n : Int) - 1 = M := ⟨_, rfl⟩
      have wm : IntKind.i64.wrap ((n : Int) - 1) = M := by rw [wn, hM]
      have hmax : (if 0 < M then M else 0) = (N1 : Int) := by by_cases c : 0 < M <;> simp [c] <;> omega
      clear wn hM
      have HN1 := hid hN1
      rw [hN1] at HSN
      clear hg gv g40 g1 g2 h8 hin z1 z2 hx hwl hRR hN1
      go_enter Try.func12, Try.ntmps12
      go_upto_region 1 with fail
      rw [← HV.out]
      try simp only [HX.out]
      try rw [show X + 1 + 1 = X + 2 from rfl]
      clear y0 y1 y2
      refine wp_scope_jumps 0 (fun a' w' => ∃ (s : Nat) (t21 t22 : Int) (u23_ u24_ u25_ u26_ u27_ u28_ u29_ u30_ u31_ u32_ u33_ u34_ u35_ u36_ : Value), a' = { tmps := #[.slice (some ⟨bS, 0, none⟩) nS capS, .slice (some ⟨b, 0, none⟩) n cap, .int .i64 (wl : Int), .pointer (some ⟨X, 0, none⟩), .pointer (some ⟨X + 1, 0, none⟩), .pointer (some ⟨X + 2, 0, none⟩), .int .i64 0, .int .i64 0, .func (.func 38) #[] #[.pointer (some ⟨X, 0, none⟩), .pointer (some ⟨X + 1, 0, none⟩), .pointer (some ⟨X + 2, 0, none⟩)], .int .i64 (s : Int), .slice (some ⟨bS, 0, none⟩) nS capS, .slice (some ⟨b, 0, none⟩) n cap, .bool true, .bool false, .slice (some ⟨bS, 0, none⟩) nS capS, .int .i64 (wl : Int), .bool true, .bool false, .func (.func 38) #[] #[.pointer (some ⟨X, 0, none⟩), .pointer (some ⟨X + 1, 0, none⟩), .pointer (some ⟨X + 2, 0, none⟩)], .slice (some ⟨b, 0, none⟩) n cap, .int .i64 (n : Int), .int .i64 t21, .int .i64 t22, u23_, u24_, u25_, u26_, u27_, u28_, u29_, u30_, u31_, u32_, u33_, u34_, u35_, u36_, undef, undef, undef, undef, undef, undef, undef, undef, undef, undef, undef, undef], defers := [] } ∧ s ≤ N1 ∧ backF (sameP zs js wl n) s = sinceN zs js wl ∧ dgJ zs js wl s = dgJ zs js wl N1 ∧ Below V.heap.size V w') (fun a' _ => (intOf (a'.tmps.getD 9 undef)).toNat) rfl ?_ ?_
      · obtain ⟨y0, y1, y2⟩ := HY.out
        go_wp2_with fail
        with_reducible refine hA.out.mono ?_
        rintro e w1 ⟨rfl, hB⟩
        have q := hB
        clear hB
        obtain ⟨y0, y1, y2⟩ : (fun W' : World => W'.cell? ⟨X, 0, none⟩ = some (.slice (some ⟨bS, 0, none⟩) nS capS) ∧ W'.cell? ⟨X + 1, 0, none⟩ = some (.slice (some ⟨b, 0, none⟩) n cap) ∧ W'.cell? ⟨X + 2, 0, none⟩ = some (.int .i64 (wl : Int))) w1 := ⟨(q.cell (p := ⟨X, 0, none⟩) (by show X < V.heap.size; have := HLT.out; omega)).trans HY.out.1, (q.cell (p := ⟨X + 1, 0, none⟩) (by show X + 1 < V.heap.size; have := HLT.out; omega)).trans HY.out.2.1, (q.cell (p := ⟨X + 2, 0, none⟩) HLT.out.2.2).trans HY.out.2.2⟩
        go_wp2_with fail
        with_reducible refine (HW.out _).mono ?_
        rintro e w2 ⟨rfl, hw⟩
        subst hw
        go_wp2_with fail
        go_step3
        have hbk : backF (sameP zs js wl n) N1 = sinceN zs js wl := HSN.out.symm
        have hdg : dgJ zs js wl N1 = dgJ zs js wl N1 := rfl
        clear wm hmax y0 y1 y2
        have HBK := hid hbk; have HDQ := hid hdg; have HQ := hid q
        clear hbk hdg
        by_cases hc : 0 < N1
        · have h0 : (0 : Int) < (N1 : Int) := by omega
          obtain ⟨S1, hS1⟩ : ∃ S1, N1 - 1 = S1 := ⟨_, rfl⟩
          have wS : IntKind.i64.wrap ((N1 : Int) - 1) = (S1 : Int) := by rw [IntWalk.i64_in _ (by have := HN1.out; omega)]; omega
          have hD1 := HDG.out S1 (by have := HN1.out; omega)
          have hD2 := HDG.out N1 (by have := HN1.out; omega)
          have hsame : sameP zs js wl n S1 = (dgJ zs js wl S1 == dgJ zs js wl N1) := by unfold sameP; rw [HN1.out, HDQ.out]
          have HS1 := hid hS1
          obtain ⟨da, hda⟩ : ∃ d, dgJ zs js wl S1 = d := ⟨_, rfl⟩
          obtain ⟨db, hdb⟩ : ∃ d, dgJ zs js wl N1 = d := ⟨_, rfl⟩
          have HDA := hid hda; have HDB := hid hdb
          rw [hda, hdb] at hsame
          rw [hda] at hD1
          rw [hdb] at hD2
          have HD1 := hid hD1; have HD2 := hid hD2
          clear hda hdb hS1 hD1 hD2
          by_cases he : da = db
          · have r1 : (da == db) = true := by simp [he]
            have r2 : decide (da = db) = true := decide_eq_true he
            have HSA := hid (show sameP zs js wl n (N1 - 1) = true by rw [HS1.out, hsame, r1])
            have HDE := hid (show dgJ zs js wl (N1 - 1) = dgJ zs js wl N1 by rw [HS1.out, HDA.out]; exact he.trans (HDB.out.symm.trans HDQ.out))
            clear hsame he
            clear q
            go_wp2_with fail
            with_reducible refine (HD1.out _ (HS.out.below HQ.out HLT.out.1) (HR.out.below HQ.out HLT.out.2.1) (by have := HQ.out.size; have := HLT.out; omega) ((HQ.out.cell (p := ⟨X, 0, none⟩) (by show X < V.heap.size; have := HLT.out; omega)).trans HY.out.1) ((HQ.out.cell (p := ⟨X + 1, 0, none⟩) (by show X + 1 < V.heap.size; have := HLT.out; omega)).trans HY.out.2.1) ((HQ.out.cell (p := ⟨X + 2, 0, none⟩) HLT.out.2.2).trans HY.out.2.2)).mono ?_
            rintro e v1 ⟨rfl, hB⟩
            have q1 := HQ.out.trans (hB.mono HQ.out.size)
            have HQ1 := hid q1
            clear hB q1
            go_wp2_with fail
            with_reducible refine (HD2.out _ (HS.out.below HQ1.out HLT.out.1) (HR.out.below HQ1.out HLT.out.2.1) (by have := HQ1.out.size; have := HLT.out; omega) ((HQ1.out.cell (p := ⟨X, 0, none⟩) (by show X < V.heap.size; have := HLT.out; omega)).trans HY.out.1) ((HQ1.out.cell (p := ⟨X + 1, 0, none⟩) (by show X + 1 < V.heap.size; have := HLT.out; omega)).trans HY.out.2.1) ((HQ1.out.cell (p := ⟨X + 2, 0, none⟩) HLT.out.2.2).trans HY.out.2.2)).mono ?_
            rintro e v2 ⟨rfl, hB⟩
            have HQ2 := hid (HQ1.out.trans (hB.mono HQ1.out.size))
            clear hB
            go_wp2_with fail
            go_step3
            exact ⟨rfl, ⟨S1, _, _, _, _, _, _, _, _, _, _, _, _, _, _, _, _, rfl, by have := HS1.out; have := HN1.out; omega, by rw [← HS1.out, ← backF_yes hc HSA.out, HBK.out], by rw [← HS1.out]; exact HDE.out, HQ2.out⟩⟩
          · have r1 : (da == db) = false := by simp [he]
            have r2 : decide (da = db) = false := decide_eq_false he
            have HAT := hid (show sinceN zs js wl = N1 by rw [← HBK.out]; exact backF_no hc (by rw [HS1.out, hsame, r1]))
            clear hsame he
            clear q
            go_wp2_with fail
            with_reducible refine (HD1.out _ (HS.out.below HQ.out HLT.out.1) (HR.out.below HQ.out HLT.out.2.1) (by have := HQ.out.size; have := HLT.out; omega) ((HQ.out.cell (p := ⟨X, 0, none⟩) (by show X < V.heap.size; have := HLT.out; omega)).trans HY.out.1) ((HQ.out.cell (p := ⟨X + 1, 0, none⟩) (by show X + 1 < V.heap.size; have := HLT.out; omega)).trans HY.out.2.1) ((HQ.out.cell (p := ⟨X + 2, 0, none⟩) HLT.out.2.2).trans HY.out.2.2)).mono ?_
            rintro e v1 ⟨rfl, hB⟩
            have q1 := HQ.out.trans (hB.mono HQ.out.size)
            have HQ1 := hid q1
            clear hB q1
            go_wp2_with fail
            with_reducible refine (HD2.out _ (HS.out.below HQ1.out HLT.out.1) (HR.out.below HQ1.out HLT.out.2.1) (by have := HQ1.out.size; have := HLT.out; omega) ((HQ1.out.cell (p := ⟨X, 0, none⟩) (by show X < V.heap.size; have := HLT.out; omega)).trans HY.out.1) ((HQ1.out.cell (p := ⟨X + 1, 0, none⟩) (by show X + 1 < V.heap.size; have := HLT.out; omega)).trans HY.out.2.1) ((HQ1.out.cell (p := ⟨X + 2, 0, none⟩) HLT.out.2.2).trans HY.out.2.2)).mono ?_
            rintro e v2 ⟨rfl, hB⟩
            have q := HQ1.out.trans (hB.mono HQ1.out.size)
            clear hB
            have hsl := slice_rd (some ⟨b, 0, none⟩) b n cap N1 (by have := HN1.out; omega) HCAP.out (by have := HN1.out; omega) rfl
            have HMS := hid (fun W a1 a2 => HMV.out N1 (by have := HN1.out; omega) W a1 a2)
            have HY2 := hid HYES.out
            have HN2 := hid HNO.out
            rw [HAT.out, ← HN.out] at HY2 HN2
            obtain ⟨mv, hmv⟩ : ∃ r, anyB (movP zs js wl N1) n = r := ⟨_, rfl⟩
            rw [hmv] at HMS HY2 HN2
            clear hmv
            go_upto_region 9 with fail
            refine wp_region_held (S := fun W' : World => W'.cell? ⟨X, 0, none⟩ = some (.slice (some ⟨bS, 0, none⟩) nS capS) ∧ W'.cell? ⟨X + 1, 0, none⟩ = some (.slice (some ⟨b, 0, none⟩) n cap) ∧ W'.cell? ⟨X + 2, 0, none⟩ = some (.int .i64 (wl : Int))) (by kernel_rfl) ?_
            change wpAnyH _ _ _ _ _ _ _ _ (World.drew _)
            obtain ⟨W0, hW0⟩ : ∃ X, X = World.drew v2 := ⟨_, rfl⟩
            have q0 : Below V.heap.size V W0 := by rw [hW0]; exact q.drew
            have hS0 : (fun W' : World => W'.cell? ⟨X, 0, none⟩ = some (.slice (some ⟨bS, 0, none⟩) nS capS) ∧ W'.cell? ⟨X + 1, 0, none⟩ = some (.slice (some ⟨b, 0, none⟩) n cap) ∧ W'.cell? ⟨X + 2, 0, none⟩ = some (.int .i64 (wl : Int))) W0 := ⟨(q0.cell (p := ⟨X, 0, none⟩) (by show X < V.heap.size; have := HLT.out; omega)).trans HY.out.1, (q0.cell (p := ⟨X + 1, 0, none⟩) (by show X + 1 < V.heap.size; have := HLT.out; omega)).trans HY.out.2.1, (q0.cell (p := ⟨X + 2, 0, none⟩) HLT.out.2.2).trans HY.out.2.2⟩
            rw [← hW0]
            clear hW0 q
            refine wpAnyH_takeD (some 37) (i := 0) (v := ?_) rfl rfl (by kernel_rfl) (by kernel_rfl) (by kernel_rfl) (fun _ _ _ h => h) (.inl ⟨by kernel_rfl, ?_⟩) hS0 ?_
            rotate_left
            · intro w' hw'; obtain ⟨g1, g2, g3⟩ := hw'; go_simp; try with_reducible rfl
            try simp only [Act.put, List.setIfInBounds_toArray, List.set_cons_zero, List.set_cons_succ]
            refine wpAnyH_takeD (some 38) (i := 1) (v := ?_) rfl rfl (by kernel_rfl) (by kernel_rfl) (by kernel_rfl) (fun _ _ _ h => h) (.inl ⟨by kernel_rfl, ?_⟩) hS0 ?_
            rotate_left
            · intro w' hw'; obtain ⟨g1, g2, g3⟩ := hw'; go_simp; try with_reducible rfl
            try simp only [Act.put, List.setIfInBounds_toArray, List.set_cons_zero, List.set_cons_succ]
            refine wpAnyH_takeD (some 39) (i := 2) (v := ?_) rfl rfl (by kernel_rfl) (by kernel_rfl) (by kernel_rfl) (fun _ _ _ h => h) (.inl ⟨by kernel_rfl, ?_⟩) hS0 ?_
            rotate_left
            · intro w' hw'; obtain ⟨g1, g2, g3⟩ := hw'; go_simp; try with_reducible rfl
            try simp only [Act.put, List.setIfInBounds_toArray, List.set_cons_zero, List.set_cons_succ]
            refine wpAnyH_takeD (some 40) (i := 3) (v := ?_) rfl rfl (by kernel_rfl) (by kernel_rfl) (by kernel_rfl) (fun _ _ _ h => h) (.inl ⟨by kernel_rfl, ?_⟩) hS0 ?_
            rotate_left
            · intro w' hw'; go_simp; try with_reducible rfl
            try simp only [Act.put, List.setIfInBounds_toArray, List.set_cons_zero, List.set_cons_succ]
            refine wpAnyH_takeD (some 41) (i := 4) (v := ?_) rfl rfl (by kernel_rfl) (by kernel_rfl) (by kernel_rfl) (fun _ _ _ h => h) (.inl ⟨by kernel_rfl, ?_⟩) hS0 ?_
            rotate_left
            · intro w' hw'; obtain ⟨g1, g2, g3⟩ := hw'; go_simp; try with_reducible rfl
            try simp only [Act.put, List.setIfInBounds_toArray, List.set_cons_zero, List.set_cons_succ]
            refine wpAnyH_takeD (some 42) (i := 5) (v := ?_) rfl rfl (by kernel_rfl) (by kernel_rfl) (by kernel_rfl) (fun _ _ _ h => h) (.inl ⟨by kernel_rfl, ?_⟩) hS0 ?_
            rotate_left
            · intro w' hw'; go_simp; try with_reducible rfl
            try simp only [Act.put, List.setIfInBounds_toArray, List.set_cons_zero, List.set_cons_succ]
            refine wpAnyH_takeD (some 43) (i := 6) (v := ?_) rfl rfl (by kernel_rfl) (by kernel_rfl) (by kernel_rfl) (fun _ _ _ h => h) (.inl ⟨by kernel_rfl, ?_⟩) hS0 ?_
            rotate_left
            · intro w' hw'; obtain ⟨g1, g2, g3⟩ := hw'; go_simp; try with_reducible rfl
            try simp only [Act.put, List.setIfInBounds_toArray, List.set_cons_zero, List.set_cons_succ]
            refine wpAnyH_takeD (some 44) (i := 7) (v := ?_) rfl rfl (by kernel_rfl) (by kernel_rfl) (by kernel_rfl) (fun _ _ _ h => h) (.inl ⟨by kernel_rfl, ?_⟩) hS0 ?_
            rotate_left
            · intro w' hw'; go_simp; try with_reducible rfl
            try simp only [Act.put, List.setIfInBounds_toArray, List.set_cons_zero, List.set_cons_succ]
            refine wpAnyH_takeD (some 45) (i := 8) (v := ?_) rfl rfl (by kernel_rfl) (by kernel_rfl) (by kernel_rfl) (fun _ _ _ h => h) (.inl ⟨by kernel_rfl, ?_⟩) hS0 ?_
            rotate_left
            · intro w' hw'; go_simp; try with_reducible rfl
            try simp only [Act.put, List.setIfInBounds_toArray, List.set_cons_zero, List.set_cons_succ]
            refine wpAnyH_all (rs := [9]) (by kernel_rfl) (by simp) ?_
            intro i hi; simp only [List.mem_cons, List.not_mem_nil, or_false] at hi
            subst hi
            refine wpOp_step rfl (fun K hK => ?_)
            go_simp
            with_reducible refine (HMS.out W0 (HS.out.below q0 HLT.out.1) (HR.out.below q0 HLT.out.2.1)).mono ?_
            rintro e v9 ⟨rfl, hB⟩
            have q9 := q0.trans (hB.mono q0.size)
            clear hB
            have hS9 : (fun W' : World => W'.cell? ⟨X, 0, none⟩ = some (.slice (some ⟨bS, 0, none⟩) nS capS) ∧ W'.cell? ⟨X + 1, 0, none⟩ = some (.slice (some ⟨b, 0, none⟩) n cap) ∧ W'.cell? ⟨X + 2, 0, none⟩ = some (.int .i64 (wl : Int))) v9 := ⟨(q9.cell (p := ⟨X, 0, none⟩) (by show X < V.heap.size; have := HLT.out; omega)).trans HY.out.1, (q9.cell (p := ⟨X + 1, 0, none⟩) (by show X + 1 < V.heap.size; have := HLT.out; omega)).trans HY.out.2.1, (q9.cell (p := ⟨X + 2, 0, none⟩) HLT.out.2.2).trans HY.out.2.2⟩
            refine hK _ _ ⟨hS9, ?_⟩
            try simp only [Act.put, List.setIfInBounds_toArray, List.set_cons_zero, List.set_cons_succ]
            clear hK K
            refine wpAnyH_takeD (some 47) (i := 10) (v := ?_) rfl rfl (by kernel_rfl) (by kernel_rfl) (by kernel_rfl) (fun _ _ _ h => h) (.inl ⟨by kernel_rfl, ?_⟩) hS9 ?_
            rotate_left
            · intro w' hw'; go_simp; try with_reducible rfl
            try simp only [Act.put, List.setIfInBounds_toArray, List.set_cons_zero, List.set_cons_succ]
            refine wpAnyH_done (by kernel_rfl) ?_ _
            have Q9 := hid (BV.out.trans (q9.mono BV.out.size))
            clear hS0 hS9 q0 q9
            cases mv with
            | true =>
              have HT := hid (HY2.out rfl)
              go_wp2_with fail
              try simp only [Exit.jump]
              go_ret2
              exact ⟨by rw [HT.out]; first | rfl | simp, Q9.out⟩
            | false =>
              have HT := hid (HN2.out rfl)
              go_wp2_with fail
              try simp only [Exit.jump]
              go_ret2
              exact ⟨by rw [HT.out]; first | rfl | simp, Q9.out⟩
        · have h0 : ¬ (0 : Int) < (N1 : Int) := by omega
          have h0' : decide ((0 : Int) < (N1 : Int)) = false := decide_eq_false h0
          have HAT := hid (show sinceN zs js wl = N1 by rw [← HBK.out, show N1 = 0 by omega]; rfl)
          clear hc
          have hsl := slice_rd (some ⟨b, 0, none⟩) b n cap N1 (by have := HN1.out; omega) HCAP.out (by have := HN1.out; omega) rfl
          have HMS := hid (fun W a1 a2 => HMV.out N1 (by have := HN1.out; omega) W a1 a2)
          have HY2 := hid HYES.out
          have HN2 := hid HNO.out
          rw [HAT.out, ← HN.out] at HY2 HN2
          obtain ⟨mv, hmv⟩ : ∃ r, anyB (movP zs js wl N1) n = r := ⟨_, rfl⟩
          rw [hmv] at HMS HY2 HN2
          clear hmv
          go_upto_region 9 with fail
          refine wp_region_held (S := fun W' : World => W'.cell? ⟨X, 0, none⟩ = some (.slice (some ⟨bS, 0, none⟩) nS capS) ∧ W'.cell? ⟨X + 1, 0, none⟩ = some (.slice (some ⟨b, 0, none⟩) n cap) ∧ W'.cell? ⟨X + 2, 0, none⟩ = some (.int .i64 (wl : Int))) (by kernel_rfl) ?_
          change wpAnyH _ _ _ _ _ _ _ _ (World.drew _)
          obtain ⟨W0, hW0⟩ : ∃ X, X = World.drew w1 := ⟨_, rfl⟩
          have q0 : Below V.heap.size V W0 := by rw [hW0]; exact q.drew
          have hS0 : (fun W' : World => W'.cell? ⟨X, 0, none⟩ = some (.slice (some ⟨bS, 0, none⟩) nS capS) ∧ W'.cell? ⟨X + 1, 0, none⟩ = some (.slice (some ⟨b, 0, none⟩) n cap) ∧ W'.cell? ⟨X + 2, 0, none⟩ = some (.int .i64 (wl : Int))) W0 := ⟨(q0.cell (p := ⟨X, 0, none⟩) (by show X < V.heap.size; have := HLT.out; omega)).trans HY.out.1, (q0.cell (p := ⟨X + 1, 0, none⟩) (by show X + 1 < V.heap.size; have := HLT.out; omega)).trans HY.out.2.1, (q0.cell (p := ⟨X + 2, 0, none⟩) HLT.out.2.2).trans HY.out.2.2⟩
          rw [← hW0]
          clear hW0 q
          refine wpAnyH_takeD (some 37) (i := 0) (v := ?_) rfl rfl (by kernel_rfl) (by kernel_rfl) (by kernel_rfl) (fun _ _ _ h => h) (.inl ⟨by kernel_rfl, ?_⟩) hS0 ?_
          rotate_left
          · intro w' hw'; obtain ⟨g1, g2, g3⟩ := hw'; go_simp; try with_reducible rfl
          try simp only [Act.put, List.setIfInBounds_toArray, List.set_cons_zero, List.set_cons_succ]
          refine wpAnyH_takeD (some 38) (i := 1) (v := ?_) rfl rfl (by kernel_rfl) (by kernel_rfl) (by kernel_rfl) (fun _ _ _ h => h) (.inl ⟨by kernel_rfl, ?_⟩) hS0 ?_
          rotate_left
          · intro w' hw'; obtain ⟨g1, g2, g3⟩ := hw'; go_simp; try with_reducible rfl
          try simp only [Act.put, List.setIfInBounds_toArray, List.set_cons_zero, List.set_cons_succ]
          refine wpAnyH_takeD (some 39) (i := 2) (v := ?_) rfl rfl (by kernel_rfl) (by kernel_rfl) (by kernel_rfl) (fun _ _ _ h => h) (.inl ⟨by kernel_rfl, ?_⟩) hS0 ?_
          rotate_left
          · intro w' hw'; obtain ⟨g1, g2, g3⟩ := hw'; go_simp; try with_reducible rfl
          try simp only [Act.put, List.setIfInBounds_toArray, List.set_cons_zero, List.set_cons_succ]
          refine wpAnyH_takeD (some 40) (i := 3) (v := ?_) rfl rfl (by kernel_rfl) (by kernel_rfl) (by kernel_rfl) (fun _ _ _ h => h) (.inl ⟨by kernel_rfl, ?_⟩) hS0 ?_
          rotate_left
          · intro w' hw'; go_simp; try with_reducible rfl
          try simp only [Act.put, List.setIfInBounds_toArray, List.set_cons_zero, List.set_cons_succ]
          refine wpAnyH_takeD (some 41) (i := 4) (v := ?_) rfl rfl (by kernel_rfl) (by kernel_rfl) (by kernel_rfl) (fun _ _ _ h => h) (.inl ⟨by kernel_rfl, ?_⟩) hS0 ?_
          rotate_left
          · intro w' hw'; obtain ⟨g1, g2, g3⟩ := hw'; go_simp; try with_reducible rfl
          try simp only [Act.put, List.setIfInBounds_toArray, List.set_cons_zero, List.set_cons_succ]
          refine wpAnyH_takeD (some 42) (i := 5) (v := ?_) rfl rfl (by kernel_rfl) (by kernel_rfl) (by kernel_rfl) (fun _ _ _ h => h) (.inl ⟨by kernel_rfl, ?_⟩) hS0 ?_
          rotate_left
          · intro w' hw'; go_simp; try with_reducible rfl
          try simp only [Act.put, List.setIfInBounds_toArray, List.set_cons_zero, List.set_cons_succ]
          refine wpAnyH_takeD (some 43) (i := 6) (v := ?_) rfl rfl (by kernel_rfl) (by kernel_rfl) (by kernel_rfl) (fun _ _ _ h => h) (.inl ⟨by kernel_rfl, ?_⟩) hS0 ?_
          rotate_left
          · intro w' hw'; obtain ⟨g1, g2, g3⟩ := hw'; go_simp; try with_reducible rfl
          try simp only [Act.put, List.setIfInBounds_toArray, List.set_cons_zero, List.set_cons_succ]
          refine wpAnyH_takeD (some 44) (i := 7) (v := ?_) rfl rfl (by kernel_rfl) (by kernel_rfl) (by kernel_rfl) (fun _ _ _ h => h) (.inl ⟨by kernel_rfl, ?_⟩) hS0 ?_
          rotate_left
          · intro w' hw'; go_simp; try with_reducible rfl
          try simp only [Act.put, List.setIfInBounds_toArray, List.set_cons_zero, List.set_cons_succ]
          refine wpAnyH_takeD (some 45) (i := 8) (v := ?_) rfl rfl (by kernel_rfl) (by kernel_rfl) (by kernel_rfl) (fun _ _ _ h => h) (.inl ⟨by kernel_rfl, ?_⟩) hS0 ?_
          rotate_left
          · intro w' hw'; go_simp; try with_reducible rfl
          try simp only [Act.put, List.setIfInBounds_toArray, List.set_cons_zero, List.set_cons_succ]
          refine wpAnyH_all (rs := [9]) (by kernel_rfl) (by simp) ?_
          intro i hi; simp only [List.mem_cons, List.not_mem_nil, or_false] at hi
          subst hi
          refine wpOp_step rfl (fun K hK => ?_)
          go_simp
          with_reducible refine (HMS.out W0 (HS.out.below q0 HLT.out.1) (HR.out.below q0 HLT.out.2.1)).mono ?_
          rintro e v9 ⟨rfl, hB⟩
          have q9 := q0.trans (hB.mono q0.size)
          clear hB
          have hS9 : (fun W' : World => W'.cell? ⟨X, 0, none⟩ = some (.slice (some ⟨bS, 0, none⟩) nS capS) ∧ W'.cell? ⟨X + 1, 0, none⟩ = some (.slice (some ⟨b, 0, none⟩) n cap) ∧ W'.cell? ⟨X + 2, 0, none⟩ = some (.int .i64 (wl : Int))) v9 := ⟨(q9.cell (p := ⟨X, 0, none⟩) (by show X < V.heap.size; have := HLT.out; omega)).trans HY.out.1, (q9.cell (p := ⟨X + 1, 0, none⟩) (by show X + 1 < V.heap.size; have := HLT.out; omega)).trans HY.out.2.1, (q9.cell (p := ⟨X + 2, 0, none⟩) HLT.out.2.2).trans HY.out.2.2⟩
          refine hK _ _ ⟨hS9, ?_⟩
          try simp only [Act.put, List.setIfInBounds_toArray, List.set_cons_zero, List.set_cons_succ]
          clear hK K
          refine wpAnyH_takeD (some 47) (i := 10) (v := ?_) rfl rfl (by kernel_rfl) (by kernel_rfl) (by kernel_rfl) (fun _ _ _ h => h) (.inl ⟨by kernel_rfl, ?_⟩) hS9 ?_
          rotate_left
          · intro w' hw'; go_simp; try with_reducible rfl
          try simp only [Act.put, List.setIfInBounds_toArray, List.set_cons_zero, List.set_cons_succ]
          refine wpAnyH_done (by kernel_rfl) ?_ _
          have Q9 := hid (BV.out.trans (q9.mono BV.out.size))
          clear hS0 hS9 q0 q9
          cases mv with
          | true =>
            have HT := hid (HY2.out rfl)
            go_wp2_with fail
            try simp only [Exit.jump]
            go_ret2
            exact ⟨by rw [HT.out]; first | rfl | simp, Q9.out⟩
          | false =>
            have HT := hid (HN2.out rfl)
            go_wp2_with fail
            try simp only [Exit.jump]
            go_ret2
            exact ⟨by rw [HT.out]; first | rfl | simp, Q9.out⟩
      · rintro a' w' ⟨s, t21, t22, u23_, u24_, u25_, u26_, u27_, u28_, u29_, u30_, u31_, u32_, u33_, u34_, u35_, u36_, rfl, hs, hbk, hdg, q⟩
        clear wm hmax
        have HBK := hid hbk; have HDQ := hid hdg; have HQ := hid q
        clear hbk hdg
        by_cases hc : 0 < s
        · have h0 : (0 : Int) < (s : Int) := by omega
          obtain ⟨S1, hS1⟩ : ∃ S1, s - 1 = S1 := ⟨_, rfl⟩
          have wS : IntKind.i64.wrap ((s : Int) - 1) = (S1 : Int) := by rw [IntWalk.i64_in _ (by have := HN1.out; omega)]; omega
          have hD1 := HDG.out S1 (by have := HN1.out; omega)
          have hD2 := HDG.out s (by have := HN1.out; omega)
          have hsame : sameP zs js wl n S1 = (dgJ zs js wl S1 == dgJ zs js wl s) := by unfold sameP; rw [HN1.out, HDQ.out]
          have HS1 := hid hS1
          obtain ⟨da, hda⟩ : ∃ d, dgJ zs js wl S1 = d := ⟨_, rfl⟩
          obtain ⟨db, hdb⟩ : ∃ d, dgJ zs js wl s = d := ⟨_, rfl⟩
          have HDA := hid hda; have HDB := hid hdb
          rw [hda, hdb] at hsame
          rw [hda] at hD1
          rw [hdb] at hD2
          have HD1 := hid hD1; have HD2 := hid hD2
          clear hda hdb hS1 hD1 hD2
          by_cases he : da = db
          · have r1 : (da == db) = true := by simp [he]
            have r2 : decide (da = db) = true := decide_eq_true he
            have HSA := hid (show sameP zs js wl n (s - 1) = true by rw [HS1.out, hsame, r1])
            have HDE := hid (show dgJ zs js wl (s - 1) = dgJ zs js wl N1 by rw [HS1.out, HDA.out]; exact he.trans (HDB.out.symm.trans HDQ.out))
            clear hsame he
            clear q
            go_wp2_with fail
            with_reducible refine (HD1.out _ (HS.out.below HQ.out HLT.out.1) (HR.out.below HQ.out HLT.out.2.1) (by have := HQ.out.size; have := HLT.out; omega) ((HQ.out.cell (p := ⟨X, 0, none⟩) (by show X < V.heap.size; have := HLT.out; omega)).trans HY.out.1) ((HQ.out.cell (p := ⟨X + 1, 0, none⟩) (by show X + 1 < V.heap.size; have := HLT.out; omega)).trans HY.out.2.1) ((HQ.out.cell (p := ⟨X + 2, 0, none⟩) HLT.out.2.2).trans HY.out.2.2)).mono ?_
            rintro e v1 ⟨rfl, hB⟩
            have q1 := HQ.out.trans (hB.mono HQ.out.size)
            have HQ1 := hid q1
            clear hB q1
            go_wp2_with fail
            with_reducible refine (HD2.out _ (HS.out.below HQ1.out HLT.out.1) (HR.out.below HQ1.out HLT.out.2.1) (by have := HQ1.out.size; have := HLT.out; omega) ((HQ1.out.cell (p := ⟨X, 0, none⟩) (by show X < V.heap.size; have := HLT.out; omega)).trans HY.out.1) ((HQ1.out.cell (p := ⟨X + 1, 0, none⟩) (by show X + 1 < V.heap.size; have := HLT.out; omega)).trans HY.out.2.1) ((HQ1.out.cell (p := ⟨X + 2, 0, none⟩) HLT.out.2.2).trans HY.out.2.2)).mono ?_
            rintro e v2 ⟨rfl, hB⟩
            have HQ2 := hid (HQ1.out.trans (hB.mono HQ1.out.size))
            clear hB
            go_wp2_with fail
            go_step3
            exact ⟨rfl, ⟨S1, _, _, _, _, _, _, _, _, _, _, _, _, _, _, _, _, rfl, by have := HS1.out; have := HN1.out; omega, by rw [← HS1.out, ← backF_yes hc HSA.out, HBK.out], by rw [← HS1.out]; exact HDE.out, HQ2.out⟩, by have := HS1.out; simp [intOf]; omega⟩
          · have r1 : (da == db) = false := by simp [he]
            have r2 : decide (da = db) = false := decide_eq_false he
            have HAT := hid (show sinceN zs js wl = s by rw [← HBK.out]; exact backF_no hc (by rw [HS1.out, hsame, r1]))
            clear hsame he
            clear q
            go_wp2_with fail
            with_reducible refine (HD1.out _ (HS.out.below HQ.out HLT.out.1) (HR.out.below HQ.out HLT.out.2.1) (by have := HQ.out.size; have := HLT.out; omega) ((HQ.out.cell (p := ⟨X, 0, none⟩) (by show X < V.heap.size; have := HLT.out; omega)).trans HY.out.1) ((HQ.out.cell (p := ⟨X + 1, 0, none⟩) (by show X + 1 < V.heap.size; have := HLT.out; omega)).trans HY.out.2.1) ((HQ.out.cell (p := ⟨X + 2, 0, none⟩) HLT.out.2.2).trans HY.out.2.2)).mono ?_
            rintro e v1 ⟨rfl, hB⟩
            have q1 := HQ.out.trans (hB.mono HQ.out.size)
            have HQ1 := hid q1
            clear hB q1
            go_wp2_with fail
            with_reducible refine (HD2.out _ (HS.out.below HQ1.out HLT.out.1) (HR.out.below HQ1.out HLT.out.2.1) (by have := HQ1.out.size; have := HLT.out; omega) ((HQ1.out.cell (p := ⟨X, 0, none⟩) (by show X < V.heap.size; have := HLT.out; omega)).trans HY.out.1) ((HQ1.out.cell (p := ⟨X + 1, 0, none⟩) (by show X + 1 < V.heap.size; have := HLT.out; omega)).trans HY.out.2.1) ((HQ1.out.cell (p := ⟨X + 2, 0, none⟩) HLT.out.2.2).trans HY.out.2.2)).mono ?_
            rintro e v2 ⟨rfl, hB⟩
            have q := HQ1.out.trans (hB.mono HQ1.out.size)
            clear hB
            have hsl := slice_rd (some ⟨b, 0, none⟩) b n cap s (by have := HN1.out; omega) HCAP.out (by have := HN1.out; omega) rfl
            have HMS := hid (fun W a1 a2 => HMV.out s (by have := HN1.out; omega) W a1 a2)
            have HY2 := hid HYES.out
            have HN2 := hid HNO.out
            rw [HAT.out, ← HN.out] at HY2 HN2
            obtain ⟨mv, hmv⟩ : ∃ r, anyB (movP zs js wl s) n = r := ⟨_, rfl⟩
            rw [hmv] at HMS HY2 HN2
            clear hmv
            go_upto_region 9 with fail
            refine wp_region_held (S := fun W' : World => W'.cell? ⟨X, 0, none⟩ = some (.slice (some ⟨bS, 0, none⟩) nS capS) ∧ W'.cell? ⟨X + 1, 0, none⟩ = some (.slice (some ⟨b, 0, none⟩) n cap) ∧ W'.cell? ⟨X + 2, 0, none⟩ = some (.int .i64 (wl : Int))) (by kernel_rfl) ?_
            change wpAnyH _ _ _ _ _ _ _ _ (World.drew _)
            obtain ⟨W0, hW0⟩ : ∃ X, X = World.drew v2 := ⟨_, rfl⟩
            have q0 : Below V.heap.size V W0 := by rw [hW0]; exact q.drew
            have hS0 : (fun W' : World => W'.cell? ⟨X, 0, none⟩ = some (.slice (some ⟨bS, 0, none⟩) nS capS) ∧ W'.cell? ⟨X + 1, 0, none⟩ = some (.slice (some ⟨b, 0, none⟩) n cap) ∧ W'.cell? ⟨X + 2, 0, none⟩ = some (.int .i64 (wl : Int))) W0 := ⟨(q0.cell (p := ⟨X, 0, none⟩) (by show X < V.heap.size; have := HLT.out; omega)).trans HY.out.1, (q0.cell (p := ⟨X + 1, 0, none⟩) (by show X + 1 < V.heap.size; have := HLT.out; omega)).trans HY.out.2.1, (q0.cell (p := ⟨X + 2, 0, none⟩) HLT.out.2.2).trans HY.out.2.2⟩
            rw [← hW0]
            clear hW0 q
            refine wpAnyH_takeD (some 37) (i := 0) (v := ?_) rfl rfl (by kernel_rfl) (by kernel_rfl) (by kernel_rfl) (fun _ _ _ h => h) (.inl ⟨by kernel_rfl, ?_⟩) hS0 ?_
            rotate_left
            · intro w' hw'; obtain ⟨g1, g2, g3⟩ := hw'; go_simp; try with_reducible rfl
            try simp only [Act.put, List.setIfInBounds_toArray, List.set_cons_zero, List.set_cons_succ]
            refine wpAnyH_takeD (some 38) (i := 1) (v := ?_) rfl rfl (by kernel_rfl) (by kernel_rfl) (by kernel_rfl) (fun _ _ _ h => h) (.inl ⟨by kernel_rfl, ?_⟩) hS0 ?_
            rotate_left
            · intro w' hw'; obtain ⟨g1, g2, g3⟩ := hw'; go_simp; try with_reducible rfl
            try simp only [Act.put, List.setIfInBounds_toArray, List.set_cons_zero, List.set_cons_succ]
            refine wpAnyH_takeD (some 39) (i := 2) (v := ?_) rfl rfl (by kernel_rfl) (by kernel_rfl) (by kernel_rfl) (fun _ _ _ h => h) (.inl ⟨by kernel_rfl, ?_⟩) hS0 ?_
            rotate_left
            · intro w' hw'; obtain ⟨g1, g2, g3⟩ := hw'; go_simp; try with_reducible rfl
            try simp only [Act.put, List.setIfInBounds_toArray, List.set_cons_zero, List.set_cons_succ]
            refine wpAnyH_takeD (some 40) (i := 3) (v := ?_) rfl rfl (by kernel_rfl) (by kernel_rfl) (by kernel_rfl) (fun _ _ _ h => h) (.inl ⟨by kernel_rfl, ?_⟩) hS0 ?_
            rotate_left
            · intro w' hw'; go_simp; try with_reducible rfl
            try simp only [Act.put, List.setIfInBounds_toArray, List.set_cons_zero, List.set_cons_succ]
            refine wpAnyH_takeD (some 41) (i := 4) (v := ?_) rfl rfl (by kernel_rfl) (by kernel_rfl) (by kernel_rfl) (fun _ _ _ h => h) (.inl ⟨by kernel_rfl, ?_⟩) hS0 ?_
            rotate_left
            · intro w' hw'; obtain ⟨g1, g2, g3⟩ := hw'; go_simp; try with_reducible rfl
            try simp only [Act.put, List.setIfInBounds_toArray, List.set_cons_zero, List.set_cons_succ]
            refine wpAnyH_takeD (some 42) (i := 5) (v := ?_) rfl rfl (by kernel_rfl) (by kernel_rfl) (by kernel_rfl) (fun _ _ _ h => h) (.inl ⟨by kernel_rfl, ?_⟩) hS0 ?_
            rotate_left
            · intro w' hw'; go_simp; try with_reducible rfl
            try simp only [Act.put, List.setIfInBounds_toArray, List.set_cons_zero, List.set_cons_succ]
            refine wpAnyH_takeD (some 43) (i := 6) (v := ?_) rfl rfl (by kernel_rfl) (by kernel_rfl) (by kernel_rfl) (fun _ _ _ h => h) (.inl ⟨by kernel_rfl, ?_⟩) hS0 ?_
            rotate_left
            · intro w' hw'; obtain ⟨g1, g2, g3⟩ := hw'; go_simp; try with_reducible rfl
            try simp only [Act.put, List.setIfInBounds_toArray, List.set_cons_zero, List.set_cons_succ]
            refine wpAnyH_takeD (some 44) (i := 7) (v := ?_) rfl rfl (by kernel_rfl) (by kernel_rfl) (by kernel_rfl) (fun _ _ _ h => h) (.inl ⟨by kernel_rfl, ?_⟩) hS0 ?_
            rotate_left
            · intro w' hw'; go_simp; try with_reducible rfl
            try simp only [Act.put, List.setIfInBounds_toArray, List.set_cons_zero, List.set_cons_succ]
            refine wpAnyH_takeD (some 45) (i := 8) (v := ?_) rfl rfl (by kernel_rfl) (by kernel_rfl) (by kernel_rfl) (fun _ _ _ h => h) (.inl ⟨by kernel_rfl, ?_⟩) hS0 ?_
            rotate_left
            · intro w' hw'; go_simp; try with_reducible rfl
            try simp only [Act.put, List.setIfInBounds_toArray, List.set_cons_zero, List.set_cons_succ]
            refine wpAnyH_all (rs := [9]) (by kernel_rfl) (by simp) ?_
            intro i hi; simp only [List.mem_cons, List.not_mem_nil, or_false] at hi
            subst hi
            refine wpOp_step rfl (fun K hK => ?_)
            go_simp
            with_reducible refine (HMS.out W0 (HS.out.below q0 HLT.out.1) (HR.out.below q0 HLT.out.2.1)).mono ?_
            rintro e v9 ⟨rfl, hB⟩
            have q9 := q0.trans (hB.mono q0.size)
            clear hB
            have hS9 : (fun W' : World => W'.cell? ⟨X, 0, none⟩ = some (.slice (some ⟨bS, 0, none⟩) nS capS) ∧ W'.cell? ⟨X + 1, 0, none⟩ = some (.slice (some ⟨b, 0, none⟩) n cap) ∧ W'.cell? ⟨X + 2, 0, none⟩ = some (.int .i64 (wl : Int))) v9 := ⟨(q9.cell (p := ⟨X, 0, none⟩) (by show X < V.heap.size; have := HLT.out; omega)).trans HY.out.1, (q9.cell (p := ⟨X + 1, 0, none⟩) (by show X + 1 < V.heap.size; have := HLT.out; omega)).trans HY.out.2.1, (q9.cell (p := ⟨X + 2, 0, none⟩) HLT.out.2.2).trans HY.out.2.2⟩
            refine hK _ _ ⟨hS9, ?_⟩
            try simp only [Act.put, List.setIfInBounds_toArray, List.set_cons_zero, List.set_cons_succ]
            clear hK K
            refine wpAnyH_takeD (some 47) (i := 10) (v := ?_) rfl rfl (by kernel_rfl) (by kernel_rfl) (by kernel_rfl) (fun _ _ _ h => h) (.inl ⟨by kernel_rfl, ?_⟩) hS9 ?_
            rotate_left
            · intro w' hw'; go_simp; try with_reducible rfl
            try simp only [Act.put, List.setIfInBounds_toArray, List.set_cons_zero, List.set_cons_succ]
            refine wpAnyH_done (by kernel_rfl) ?_ _
            have Q9 := hid (BV.out.trans (q9.mono BV.out.size))
            clear hS0 hS9 q0 q9
            cases mv with
            | true =>
              have HT := hid (HY2.out rfl)
              go_wp2_with fail
              try simp only [Exit.jump]
              go_ret2
              exact ⟨by rw [HT.out]; first | rfl | simp, Q9.out⟩
            | false =>
              have HT := hid (HN2.out rfl)
              go_wp2_with fail
              try simp only [Exit.jump]
              go_ret2
              exact ⟨by rw [HT.out]; first | rfl | simp, Q9.out⟩
        · have h0 : ¬ (0 : Int) < (s : Int) := by omega
          have h0' : decide ((0 : Int) < (s : Int)) = false := decide_eq_false h0
          have HAT := hid (show sinceN zs js wl = s by rw [← HBK.out, show s = 0 by omega]; rfl)
          clear hc
          have hsl := slice_rd (some ⟨b, 0, none⟩) b n cap s (by have := HN1.out; omega) HCAP.out (by have := HN1.out; omega) rfl
          have HMS := hid (fun W a1 a2 => HMV.out s (by have := HN1.out; omega) W a1 a2)
          have HY2 := hid HYES.out
          have HN2 := hid HNO.out
          rw [HAT.out, ← HN.out] at HY2 HN2
          obtain ⟨mv, hmv⟩ : ∃ r, anyB (movP zs js wl s) n = r := ⟨_, rfl⟩
          rw [hmv] at HMS HY2 HN2
          clear hmv
          go_upto_region 9 with fail
          refine wp_region_held (S := fun W' : World => W'.cell? ⟨X, 0, none⟩ = some (.slice (some ⟨bS, 0, none⟩) nS capS) ∧ W'.cell? ⟨X + 1, 0, none⟩ = some (.slice (some ⟨b, 0, none⟩) n cap) ∧ W'.cell? ⟨X + 2, 0, none⟩ = some (.int .i64 (wl : Int))) (by kernel_rfl) ?_
          change wpAnyH _ _ _ _ _ _ _ _ (World.drew _)
          obtain ⟨W0, hW0⟩ : ∃ X, X = World.drew w' := ⟨_, rfl⟩
          have q0 : Below V.heap.size V W0 := by rw [hW0]; exact q.drew
          have hS0 : (fun W' : World => W'.cell? ⟨X, 0, none⟩ = some (.slice (some ⟨bS, 0, none⟩) nS capS) ∧ W'.cell? ⟨X + 1, 0, none⟩ = some (.slice (some ⟨b, 0, none⟩) n cap) ∧ W'.cell? ⟨X + 2, 0, none⟩ = some (.int .i64 (wl : Int))) W0 := ⟨(q0.cell (p := ⟨X, 0, none⟩) (by show X < V.heap.size; have := HLT.out; omega)).trans HY.out.1, (q0.cell (p := ⟨X + 1, 0, none⟩) (by show X + 1 < V.heap.size; have := HLT.out; omega)).trans HY.out.2.1, (q0.cell (p := ⟨X + 2, 0, none⟩) HLT.out.2.2).trans HY.out.2.2⟩
          rw [← hW0]
          clear hW0 q
          refine wpAnyH_takeD (some 37) (i := 0) (v := ?_) rfl rfl (by kernel_rfl) (by kernel_rfl) (by kernel_rfl) (fun _ _ _ h => h) (.inl ⟨by kernel_rfl, ?_⟩) hS0 ?_
          rotate_left
          · intro w' hw'; obtain ⟨g1, g2, g3⟩ := hw'; go_simp; try with_reducible rfl
          try simp only [Act.put, List.setIfInBounds_toArray, List.set_cons_zero, List.set_cons_succ]
          refine wpAnyH_takeD (some 38) (i := 1) (v := ?_) rfl rfl (by kernel_rfl) (by kernel_rfl) (by kernel_rfl) (fun _ _ _ h => h) (.inl ⟨by kernel_rfl, ?_⟩) hS0 ?_
          rotate_left
          · intro w' hw'; obtain ⟨g1, g2, g3⟩ := hw'; go_simp; try with_reducible rfl
          try simp only [Act.put, List.setIfInBounds_toArray, List.set_cons_zero, List.set_cons_succ]
          refine wpAnyH_takeD (some 39) (i := 2) (v := ?_) rfl rfl (by kernel_rfl) (by kernel_rfl) (by kernel_rfl) (fun _ _ _ h => h) (.inl ⟨by kernel_rfl, ?_⟩) hS0 ?_
          rotate_left
          · intro w' hw'; obtain ⟨g1, g2, g3⟩ := hw'; go_simp; try with_reducible rfl
          try simp only [Act.put, List.setIfInBounds_toArray, List.set_cons_zero, List.set_cons_succ]
          refine wpAnyH_takeD (some 40) (i := 3) (v := ?_) rfl rfl (by kernel_rfl) (by kernel_rfl) (by kernel_rfl) (fun _ _ _ h => h) (.inl ⟨by kernel_rfl, ?_⟩) hS0 ?_
          rotate_left
          · intro w' hw'; go_simp; try with_reducible rfl
          try simp only [Act.put, List.setIfInBounds_toArray, List.set_cons_zero, List.set_cons_succ]
          refine wpAnyH_takeD (some 41) (i := 4) (v := ?_) rfl rfl (by kernel_rfl) (by kernel_rfl) (by kernel_rfl) (fun _ _ _ h => h) (.inl ⟨by kernel_rfl, ?_⟩) hS0 ?_
          rotate_left
          · intro w' hw'; obtain ⟨g1, g2, g3⟩ := hw'; go_simp; try with_reducible rfl
          try simp only [Act.put, List.setIfInBounds_toArray, List.set_cons_zero, List.set_cons_succ]
          refine wpAnyH_takeD (some 42) (i := 5) (v := ?_) rfl rfl (by kernel_rfl) (by kernel_rfl) (by kernel_rfl) (fun _ _ _ h => h) (.inl ⟨by kernel_rfl, ?_⟩) hS0 ?_
          rotate_left
          · intro w' hw'; go_simp; try with_reducible rfl
          try simp only [Act.put, List.setIfInBounds_toArray, List.set_cons_zero, List.set_cons_succ]
          refine wpAnyH_takeD (some 43) (i := 6) (v := ?_) rfl rfl (by kernel_rfl) (by kernel_rfl) (by kernel_rfl) (fun _ _ _ h => h) (.inl ⟨by kernel_rfl, ?_⟩) hS0 ?_
          rotate_left
          · intro w' hw'; obtain ⟨g1, g2, g3⟩ := hw'; go_simp; try with_reducible rfl
          try simp only [Act.put, List.setIfInBounds_toArray, List.set_cons_zero, List.set_cons_succ]
          refine wpAnyH_takeD (some 44) (i := 7) (v := ?_) rfl rfl (by kernel_rfl) (by kernel_rfl) (by kernel_rfl) (fun _ _ _ h => h) (.inl ⟨by kernel_rfl, ?_⟩) hS0 ?_
          rotate_left
          · intro w' hw'; go_simp; try with_reducible rfl
          try simp only [Act.put, List.setIfInBounds_toArray, List.set_cons_zero, List.set_cons_succ]
          refine wpAnyH_takeD (some 45) (i := 8) (v := ?_) rfl rfl (by kernel_rfl) (by kernel_rfl) (by kernel_rfl) (fun _ _ _ h => h) (.inl ⟨by kernel_rfl, ?_⟩) hS0 ?_
          rotate_left
          · intro w' hw'; go_simp; try with_reducible rfl
          try simp only [Act.put, List.setIfInBounds_toArray, List.set_cons_zero, List.set_cons_succ]
          refine wpAnyH_all (rs := [9]) (by kernel_rfl) (by simp) ?_
          intro i hi; simp only [List.mem_cons, List.not_mem_nil, or_false] at hi
          subst hi
          refine wpOp_step rfl (fun K hK => ?_)
          go_simp
          with_reducible refine (HMS.out W0 (HS.out.below q0 HLT.out.1) (HR.out.below q0 HLT.out.2.1)).mono ?_
          rintro e v9 ⟨rfl, hB⟩
          have q9 := q0.trans (hB.mono q0.size)
          clear hB
          have hS9 : (fun W' : World => W'.cell? ⟨X, 0, none⟩ = some (.slice (some ⟨bS, 0, none⟩) nS capS) ∧ W'.cell? ⟨X + 1, 0, none⟩ = some (.slice (some ⟨b, 0, none⟩) n cap) ∧ W'.cell? ⟨X + 2, 0, none⟩ = some (.int .i64 (wl : Int))) v9 := ⟨(q9.cell (p := ⟨X, 0, none⟩) (by show X < V.heap.size; have := HLT.out; omega)).trans HY.out.1, (q9.cell (p := ⟨X + 1, 0, none⟩) (by show X + 1 < V.heap.size; have := HLT.out; omega)).trans HY.out.2.1, (q9.cell (p := ⟨X + 2, 0, none⟩) HLT.out.2.2).trans HY.out.2.2⟩
          refine hK _ _ ⟨hS9, ?_⟩
          try simp only [Act.put, List.setIfInBounds_toArray, List.set_cons_zero, List.set_cons_succ]
          clear hK K
          refine wpAnyH_takeD (some 47) (i := 10) (v := ?_) rfl rfl (by kernel_rfl) (by kernel_rfl) (by kernel_rfl) (fun _ _ _ h => h) (.inl ⟨by kernel_rfl, ?_⟩) hS9 ?_
          rotate_left
          · intro w' hw'; go_simp; try with_reducible rfl
          try simp only [Act.put, List.setIfInBounds_toArray, List.set_cons_zero, List.set_cons_succ]
          refine wpAnyH_done (by kernel_rfl) ?_ _
          have Q9 := hid (BV.out.trans (q9.mono BV.out.size))
          clear hS0 hS9 q0 q9
          cases mv with
          | true =>
            have HT := hid (HY2.out rfl)
            go_wp2_with fail
            try simp only [Exit.jump]
            go_ret2
            exact ⟨by rw [HT.out]; first | rfl | simp, Q9.out⟩
          | false =>
            have HT := hid (HN2.out rfl)
            go_wp2_with fail
            try simp only [Exit.jump]
            go_ret2
            exact ⟨by rw [HT.out]; first | rfl | simp, Q9.out⟩
    · rw [stuckR_out hg hx]
      unfold tup2
      have HW := hid (fun W => hasWheel_no (some ⟨bS, 0, none⟩) nS capS x (by have := HNS.out; omega) W)
      clear hg gv g40 g1 g2 h8 hin z1 z2 hx
      go_enter Try.func12, Try.ntmps12
      go_upto_region 1 with fail
      rw [← HV.out]
      try simp only [HX.out]
      try rw [show X + 1 + 1 = X + 2 from rfl]
      refine wp_scope_jumps 0 (fun _ _ => False) (fun _ _ => 0) rfl ?_ (fun _ _ h => h.elim)
      go_wp2_with fail
      with_reducible refine hA.out.mono ?_
      rintro e w1 ⟨rfl, hB⟩
      have y0 := (hB.cell (p := ⟨X, 0, none⟩) (by show X < V.heap.size; have := HLT.out; omega)).trans y0
      have y2 := (hB.cell (p := ⟨X + 2, 0, none⟩) HLT.out.2.2).trans y2
      have Q := hid (BV.out.trans (hB.mono BV.out.size))
      clear hB y1
      go_wp2_with fail
      with_reducible refine (HW.out _).mono ?_
      rintro e w2 ⟨rfl, hw⟩
      subst hw
      clear y0 y2
      go_wp2_with fail
      try simp only [Exit.jump]
      go_ret2
      exact ⟨by first | rfl | simp, Q.out⟩
end Go.Proofs.Ytofpgkbcodopiaa
