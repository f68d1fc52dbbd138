/- The law on portions. -/
import Derived.Test.YtihadhbgkjbkeaaDoorFpoM
import Derived.Test.YtihadhbgkjbkeaaDoorFmeB
import Derived.Test.YtihadhbgkjbkeaaDoorTvals
import Derived.Laws.StructEq
namespace Go.Proofs.YtihadhbgkjbkeaaDoor
open Go.RowKit
set_option linter.unusedVariables false
set_option linter.unusedSimpArgs false
theorem tvals_snocP (l : List (Int × Int)) (a b : Int) : tvals (l ++ [(a, b)]) = tvals l ++ [.int .i64 a, .int .i64 b] := by
  unfold tvals
  rw [List.length_append, List.length_singleton, show (l.length + 1) * 2 = l.length * 2 + 1 + 1 by omega, numrs_succ, numrs_succ]
  have e1 : numrs (l ++ [(a, b)]) (l.length * 2) = numrs l (l.length * 2) := by
    unfold numrs
    apply List.map_congr_left
    intro i hi
    rw [List.mem_range] at hi
    have h2 : i / 2 < l.length := by omega
    unfold numr rd rv
    rw [List.getElem?_append_left h2]
  rw [e1, numr_even, numr_odd]
  simp [rd, rv]
theorem portion_under : Tryd.prog.underlying 28 = some (.struct (Tryd.prog.fieldsOf 28)) := by rw [Program.fieldsOf, Tryd.underlying28]
theorem portion_neq (a b : Int) (w : World) : Sem.run Tryd.prog (binOp .neq 28 (.agg #[.int .i64 a, .int .i64 b]) (.agg #[.int .i64 a, .int .i64 b])) w = .ok (.bool false) w := by
  have k : Tryd.prog.underlying 2 = some (.int .i64) := Tryd.underlying2
  obtain ⟨fs, hf, hu⟩ : ∃ fs, Tryd.prog.fieldsOf 28 = fs ∧ Tryd.prog.underlying 28 = some (.struct fs) := ⟨_, rfl, portion_under⟩
  have hfs := Option.some.inj (Tryd.underlying28.symm.trans hu)
  simp only [TypeDesc.struct.injEq] at hfs
  subst hfs
  rw [run_neq_struct, run_equalIn_struct w 9999 28 _ _ portion_under (by kernel_rfl), hf]
  simp [Op.eqFields, go_sem, run_equalIn_int _ _ _ _ _ _ _ k]
theorem portion_eql (a b : Int) (w : World) : Sem.run Tryd.prog (binOp .eql 28 (.agg #[.int .i64 a, .int .i64 b]) (.agg #[.int .i64 a, .int .i64 b])) w = .ok (.bool true) w := by
  have k : Tryd.prog.underlying 2 = some (.int .i64) := Tryd.underlying2
  obtain ⟨fs, hf, hu⟩ : ∃ fs, Tryd.prog.fieldsOf 28 = fs ∧ Tryd.prog.underlying 28 = some (.struct fs) := ⟨_, rfl, portion_under⟩
  have hfs := Option.some.inj (Tryd.underlying28.symm.trans hu)
  simp only [TypeDesc.struct.injEq] at hfs
  subst hfs
  rw [run_eql_struct, run_equalIn_struct w 9999 28 _ _ portion_under (by kernel_rfl), hf]
  simp [Op.eqFields, go_sem, run_equalIn_int _ _ _ _ _ _ _ k]
theorem own_rst {w : World} {base n : Nat} {v : Value} {js : List (Int × Int)} (h : w.ownsRow base 26 2 v n (tvals js)) (hn : 1 ≤ n) (hl : js.length ≤ 1048576) : ∃ g cp, v = .slice (some ⟨g, 0, none⟩) n cp ∧ n ≤ cp ∧ Rst w g js := by
  rcases h.2 with ⟨_, h2⟩ | ⟨g, cap, cur, h2, h3, h4, h5, h6, h7, h8⟩
  · omega
  · have hr : Row w g 26 (tvals js ++ cur.toList.drop (n * 2)) := by
      unfold Row
      rw [h4, ← h8, List.take_append_drop]
    exact ⟨g, cap, h2, h5, hr.lt, fun j hj => ⟨(hr.cell _).trans (tvals_get js _ j hj).1, (hr.cell _).trans (tvals_get js _ j hj).2⟩, hl⟩
theorem owns_belowF {w w' : World} {base size n : Nat} {e : TypeId} {v : Value} {xs : List Value} (h : w.ownsRow base e size v n xs) (hb : Below w.heap.size w w') : w'.ownsRow base e size v n xs := by
  refine ⟨h.1, ?_⟩
  rcases h.2 with h0 | ⟨g, cap, cur, h1, h2, h3, h4⟩
  · exact .inl h0
  · exact .inr ⟨g, cap, cur, h1, h2, (hb.block g (lt_of_block h3)).trans h3, h4⟩
theorem from_next {js : List (Int × Int)} {p q x : Int} {k : Nat} (hk : js.length = k) (h : FromP js p q k ∧ ∀ j, j < k → rd js j ≤ 100000 ∧ rv js j ≤ 100000) (hx : 1 ≤ x ∧ x ≤ 60) (hp : 0 ≤ p ∧ p ≤ 11) (hq : 1 ≤ q) : FromP (js ++ [(x, x * p / q)]) p q (k + 1) ∧ ∀ j, j < k + 1 → rd (js ++ [(x, x * p / q)]) j ≤ 100000 ∧ rv (js ++ [(x, x * p / q)]) j ≤ 100000 := by
  have h0 : 0 ≤ x * p := Int.mul_nonneg (by omega) hp.1
  have h1 := Int.ediv_mul_le (x * p) (show q ≠ 0 by omega)
  have h2 := Int.lt_ediv_add_one_mul_self (x * p) (show 0 < q by omega)
  have h3 : 0 ≤ x * p / q := Int.ediv_nonneg h0 (by omega)
  have h4 : x * p / q ≤ x * p := Int.ediv_le_self _ h0
  have h5 : x * p ≤ 60 * 11 := Int.mul_le_mul hx.2 hp.2 hp.1 (by omega)
  have key : ∀ j, j < k + 1 → (j < k ∧ rd (js ++ [(x, x * p / q)]) j = rd js j ∧ rv (js ++ [(x, x * p / q)]) j = rv js j) ∨ (rd (js ++ [(x, x * p / q)]) j = x ∧ rv (js ++ [(x, x * p / q)]) j = x * p / q) := fun j hj => by
    by_cases c : j < k
    · refine .inl ⟨c, ?_, ?_⟩
      · unfold rd; rw [List.getElem?_append_left (by omega)]
      · unfold rv; rw [List.getElem?_append_left (by omega)]
    · have e : j = js.length := by omega
      subst e
      refine .inr ⟨?_, ?_⟩ <;> simp [rd, rv]
  refine ⟨fun j hj => ?_, fun j hj => ?_⟩
  · rcases key j hj with ⟨c, e1, e2⟩ | ⟨e1, e2⟩
    · rw [e1, e2]; exact h.1 j c
    · rw [e1, e2, Int.mul_comm p x]
      exact ⟨hx.1, h3, h1, h2⟩
  · rcases key j hj with ⟨c, e1, e2⟩ | ⟨e1, e2⟩
    · rw [e1, e2]; exact h.2 j c
    · rw [e1, e2]; omega
set_option maxRecDepth 100000 in
set_option maxHeartbeats 4000000 in
theorem law_FnPortions_in (a : Option Addr) (len cap : Nat) (zs : List Int) (a' : Option Addr) (len' cap' : Nat) (zs' : List Int) (w : World) (h : InB w a len zs) (h' : InB w a' len' zs') (hl : len ≤ 3000) (hl' : len' ≤ 3000) (hG : GV w) :
    Calls Tryd.prog 3 #[.slice a len cap, .slice a' len' cap'] w fun e w' => e = .returned (.bool true) ∧ Below w.heap.size w w' := by
  obtain ⟨i0, hi0, iz0, iz1, iz2⟩ := info_parts Tryd.infoA2
  have H1 := hid h; have H2 := hid h'; have HG := hid hG
  have F1 := hid (a2Long_no a len cap a' len' cap' w hl hl')
  have AT0 := hid (fun (k : Nat) (K : Int) (hK : (k : Int) = K) (hk : k ≤ 3000) (n : Int) (W : World) (hI : InB W a len zs) (hn : 1 ≤ n ∧ n ≤ 1000000) => show Calls Tryd.prog 5 #[.slice a len cap, .int .i64 K, .int .i64 n] W (NumIn 0 n W) from by subst hK; exact a2At_any a len cap zs k n W hI hl hk hn)
  have AT1 := hid (fun (k : Nat) (hk : k ≤ 3000) (n : Int) (W : World) (hI : InB W a' len' zs') (hn : 1 ≤ n ∧ n ≤ 1000000) => a2At_any a' len' cap' zs' k n W hI hl' hk hn)
  have HLW := hid (GV.lt hG)
  clear h h' hl hl' hG
  go_enter Tryd.func3, Tryd.ntmps3
  go_wp2_with fail
  with_reducible refine F1.out.mono ?_
  rintro e w1 ⟨rfl, hw⟩
  subst hw
  have q0 : Below w.heap.size w w := Below.refl _ _
  go_wp2_with fail
  with_reducible refine (AT0.out 0 0 rfl (by omega) 12 _ (H1.out.below q0 (Nat.le_refl _)) (by omega)).mono ?_
  rintro e w3 ⟨p, p0, p1, rfl, hw⟩
  subst hw
  go_wp2_with fail
  with_reducible refine (AT0.out 1 1 rfl (by omega) 12 _ (H1.out.below q0 (Nat.le_refl _)) (by omega)).mono ?_
  rintro e w3 ⟨q1, z0, z1, rfl, hw⟩
  subst hw
  obtain ⟨q, hq⟩ : ∃ q, 1 + q1 = q := ⟨_, rfl⟩
  have wq : IntKind.i64.wrap (1 + q1) = q := (IntWalk.i64_in _ (by omega)).trans hq
  have qb : 1 ≤ q ∧ q ≤ 12 := by omega
  have HQB := hid qb; have HPB := hid (show 0 ≤ p ∧ p ≤ 11 by omega)
  clear hq z0 z1 p0 p1
  go_wp2_with fail
  go_loopw [7, 8] (fun s7 i wr => ∃ (k : Nat) (v : Value) (js : List (Int × Int)), k ≤ 6 ∧ i = .int .i64 k ∧ v = s7 ∧ js.length = k ∧ (FromP js p q k ∧ ∀ j, j < k → rd js j ≤ 100000 ∧ rv js j ≤ 100000) ∧ wr.ownsRow w.heap.size 26 2 v k (tvals js) ∧ Below w.heap.size w wr) (fun _ i _ => 6 - (intOf i).toNat)
  case atStart => exact ⟨0, _, [], Nat.zero_le _, rfl, rfl, rfl, ⟨fun j hj => by omega, fun j hj => by omega⟩, World.ownsRow_made _ _ 0 (Nat.le_refl _) (by decide) rfl, (Below.refl _ _).alloc (Nat.le_refl _) _⟩
  case round =>
    obtain ⟨k, v, js, hk, rfl, rfl, hjl, hF, hO, hB⟩ := hrel
    have HF := hid hF; have HO := hid hO; have HB := hid hB; have HJL := hid hjl
    have k0 : (0 : Int) ≤ (k : Int) := by omega
    clear hF hO hB hjl wq qb
    go_wp2_with fail
    with_reducible refine (AT0.out 2 2 rfl (by omega) 6 _ (H1.out.below HB.out (Nat.le_refl _)) (by omega)).mono ?_
    rintro e w3 ⟨m, m0, m1, rfl, hw⟩
    subst hw
    obtain ⟨M, hM⟩ : ∃ q, 1 + m = q := ⟨_, rfl⟩
    have wm : IntKind.i64.wrap (1 + m) = M := (IntWalk.i64_in _ (by omega)).trans hM
    have mb : 1 ≤ M ∧ M ≤ 6 := by omega
    have HMB := hid mb
    clear m0 m1 hM mb
    by_cases hkm : (k : Int) < M
    · have hk5 : k < 6 := by have := HMB.out; omega
      have w1' : IntKind.i64.wrap ((k : Int) + 1) = (k : Int) + 1 := IntWalk.i64_in _ (by omega)
      go_wp2_with fail
      with_reducible refine (AT1.out k (by omega) 60 _ (H2.out.below HB.out (Nat.le_refl _)) (by omega)).mono ?_
      rintro e w4 ⟨t, t0, t1, rfl, hw⟩
      subst hw
      obtain ⟨x, hx⟩ : ∃ q, 1 + t = q := ⟨_, rfl⟩
      have wt : IntKind.i64.wrap (1 + t) = x := (IntWalk.i64_in _ (by omega)).trans hx
      have xb : 1 ≤ x ∧ x ≤ 60 := by omega
      have hn := from_next HJL.out HF.out xb HPB.out HQB.out.1
      have pb := HPB.out; have qb := HQB.out
      have hxp : 0 ≤ x * p := Int.mul_nonneg (by omega) pb.1
      have hxp2 : x * p ≤ 60 * 11 := Int.mul_le_mul xb.2 pb.2 pb.1 (by omega)
      obtain ⟨X, hX⟩ : ∃ X, x * p = X := ⟨_, rfl⟩
      rw [hX] at hn hxp hxp2
      have wX : IntKind.i64.wrap X = X := IntWalk.i64_in _ (by omega)
      have qne : q ≠ 0 := by omega
      have td : X.tdiv q = X / q := Int.tdiv_eq_ediv_of_nonneg hxp
      have ty0 : 0 ≤ X / q := Int.ediv_nonneg hxp (by omega)
      have ty1 : X / q ≤ X := Int.ediv_le_self _ hxp
      obtain ⟨y, hy⟩ : ∃ y, X / q = y := ⟨_, rfl⟩
      rw [hy] at hn td ty0 ty1
      have wy : IntKind.i64.wrap y = y := IntWalk.i64_in _ (by omega)
      have HN := hid hn; have HY := hid hy; have HXX := hid hx
      have HO4 := hid (HO.out.alloc (.cells #[.int .i64 x, .int .i64 y] 26))
      have news := Row.new wr 26 [.int .i64 x, .int .i64 y]
      have nc := hid (show ∀ j u, ([.int .i64 x, .int .i64 y] : List Value)[j]? = some u → (wr.alloc (.cells #[.int .i64 x, .int .i64 y] 26)).cell? ((⟨wr.heap.size, 0, none⟩ : Addr).add j) = some u from fun j u hj => by
        rw [show (⟨wr.heap.size, 0, none⟩ : Addr).add j = ⟨wr.heap.size, j, none⟩ from by unfold Addr.add; split <;> simp_all]
        exact (news.cell j).trans hj)
      have HONE := hid (show ∀ u ∈ ([.int .i64 x, .int .i64 y] : List Value), u.oneCell' = true from by intro u hu; simp at hu; rcases hu with rfl | rfl <;> rfl)
      have HB7 := hid (show Below w.heap.size w (wr.alloc (.cells #[.int .i64 x, .int .i64 y] 26)) from HB.out.alloc HB.out.size _)
      have HBW := hid (show w.heap.size ≤ (wr.alloc (.cells #[.int .i64 x, .int .i64 y] 26)).heap.size by simp; have := HB.out.size; omega)
      clear news hn hxp hxp2 ty0 ty1 t0 t1 xb pb qb hx hy hkm
      go_wp2_with (at_builtin; refine wpList_append_own _ rfl _ _ 25 rfl w.heap.size 26 i0 (.agg #[.int .i64 0, .int .i64 0]) 2 16 Tryd.underlying25 hi0 iz0 iz1 iz2 rfl (by decide) _ _ _ rfl HO4.out ⟨wr.heap.size, 0, none⟩ 1 1 ([.int .i64 x, .int .i64 y] : List Value) rfl rfl nc.out HONE.out (by unfold maxLen; omega) (by omega) HBW.out ?_; rintro v' w7 hown' hgrow -; have OWN := hid hown'; have GRW := hid hgrow; clear hown' hgrow)
      have bel := HB7.out.grown GRW.out HBW.out (fun kk e => by have := (HO4.out.lt kk e).1; omega)
      have OW := OWN.out
      rw [show tvals js ++ [.int .i64 x, .int .i64 y] = tvals (js ++ [(x, y)]) from (tvals_snocP js x y).symm] at OW
      have HOW := hid OW
      have HBE := hid bel
      clear bel OW hX
      go_wp2_with fail
      go_roundw
      case rel => exact ⟨k + 1, v', js ++ [(x, y)], by omega, by go_num, rfl, by simp [HJL.out], HN.out, HOW.out, HBE.out⟩
      case measure => simp [intOf]; omega
    · have hk1 : 1 ≤ k := by have := HMB.out; omega
      obtain ⟨g, cp, rfl, hcp, hR⟩ := own_rst HO.out hk1 (by have := HJL.out; omega)
      have fr := HF.out
      rw [← HJL.out] at fr
      obtain ⟨A, B, C, D, P, K, f1, f2, f3, f4, fa, fb, fc, fd, i1, i2, c1, c2, c3, c4, c5, c6, c7⟩ := portion_facts HPB.out.1 HQB.out.1 (by have := HJL.out; omega) (fun j hj => fr.2 j hj) fr.1
      have GVr := HG.out.below HB.out HLW.out
      have hgl := GVr.lt
      obtain ⟨W0, hW0⟩ : ∃ X, X = wr := ⟨_, rfl⟩
      rw [← hW0] at hR GVr hgl ⊢
      have HB0 := hid (show Below w.heap.size w W0 by rw [hW0]; exact HB.out)
      have HPI := hid (fun W (q : Below W0.heap.size W0 W) => implPortionBounds_any g k cp js W (hR.below q hR.1) HJL.out.symm hcp (GVr.below q hgl))
      have HPS := hid (fun W (q : Below W0.heap.size W0 W) => specPortionBounds_any g k cp js W (hR.below q hR.1) HJL.out.symm)
      have HFI := hid (fun W (q : Below W0.heap.size W0 W) => implFindPortion_any g k cp js W (hR.below q hR.1) HJL.out.symm hcp (GVr.below q hgl))
      have HFS := hid (fun W (q : Below W0.heap.size W0 W) => specFindPortion_any g k cp js W (hR.below q hR.1) HJL.out.symm)
      have i64 : I64 A ∧ I64 B ∧ I64 C ∧ I64 D := by unfold I64; omega
      have HS1 := hid (fun W => implSimplest_any A B C D i64.1 i64.2.1 i64.2.2.1 i64.2.2.2 W)
      have HS2 := hid (fun W => implSimplest_any C D A B i64.2.2.1 i64.2.2.2 i64.1 i64.2.1 W)
      rw [f1] at HPI HPS
      rw [f2] at HFI HFS
      rw [f3] at HS1
      rw [f4] at HS2
      unfold Pb3 at HPI HPS
      unfold pairW at HFI HFS HS1 HS2
      simp only at HPI HPS HFI HFS HS1 HS2
      have HRR := hid hR; have HW0 := hid hW0; have HFX := hid fr
      have I1 := hid i1; have I2 := hid i2; have CS := hid (And.intro c1 (And.intro c2 (And.intro c3 c4))); have C5 := hid c5; have C6 := hid c6; have C7 := hid c7; have FA := hid fa; have FB := hid fb; have FC := hid fc; have FD := hid fd
      clear fr GVr hgl hR hcp i64 f1 f2 f3 f4 fa fb fc fd i1 i2 c1 c2 c3 c4 c5 c6 c7 hW0 HO HF HB AT0 AT1 F1 H1 H2
      have q2 : Below W0.heap.size W0 W0 := Below.refl _ _
      go_wp2_with fail
      with_reducible refine (HPI.out _ q2).mono ?_
      rintro e W1 ⟨rfl, hB⟩
      replace q2 := q2.trans (hB.mono q2.size)
      clear hB
      obtain ⟨Va, hVa⟩ : ∃ X, X = ((W1.alloc (.cells #[.int .i64 A, .int .i64 B] 28)).alloc (.cells #[.int .i64 C, .int .i64 D] 28)) := ⟨_, rfl⟩
      obtain ⟨r1, r2, bb, -⟩ := two_boxes2 W1 28 28 (.int .i64 A) (.int .i64 B) (.int .i64 C) (.int .i64 D) Va hVa
      have q3 := q2.trans (bb.mono q2.size)
      have R10 := hid r1; have R11 := hid r2; have HVa := hid hVa
      clear r1 r2 bb hVa q2
      go_upto_region 12 with fail
      rw [← HVa.out]
      go_wp2_with fail
      refine (HPS.out _ q3).mono ?_
      rintro e W2 ⟨rfl, hB⟩
      have q4 := q3.trans (hB.mono q3.size)
      have R10 := hid (R10.out.below hB R10.out.lt)
      have R11 := hid (R11.out.below hB R11.out.lt)
      clear hB q3
      obtain ⟨Vb, hVb⟩ : ∃ X, X = ((W2.alloc (.cells #[.int .i64 A, .int .i64 B] 28)).alloc (.cells #[.int .i64 C, .int .i64 D] 28)) := ⟨_, rfl⟩
      obtain ⟨r1, r2, bb, -⟩ := two_boxes2 W2 28 28 (.int .i64 A) (.int .i64 B) (.int .i64 C) (.int .i64 D) Vb hVb
      have q5 := q4.trans (bb.mono q4.size)
      have R10 := hid (R10.out.below bb R10.out.lt)
      have R11 := hid (R11.out.below bb R11.out.lt)
      have R13 := hid r1; have R14 := hid r2; have HVb := hid hVb
      clear r1 r2 bb hVb q4
      go_upto_region 13 with fail
      rw [← HVb.out]
      go_wp2_with fail
      refine (HFI.out _ q5).mono ?_
      rintro e W3 ⟨rfl, hB⟩
      have q6 := q5.trans (hB.mono q5.size)
      have R10 := hid (R10.out.below hB R10.out.lt)
      have R11 := hid (R11.out.below hB R11.out.lt)
      have R13 := hid (R13.out.below hB R13.out.lt)
      have R14 := hid (R14.out.below hB R14.out.lt)
      clear hB q5
      obtain ⟨Vc, hVc⟩ : ∃ X, X = W3.alloc (.cells #[.int .i64 P, .int .i64 K] 28) := ⟨_, rfl⟩
      obtain ⟨r1, bb, -⟩ := box1_b W3 28 (.int .i64 P) (.int .i64 K) Vc hVc
      have q7 := q6.trans (bb.mono q6.size)
      have R10 := hid (R10.out.below bb R10.out.lt)
      have R11 := hid (R11.out.below bb R11.out.lt)
      have R13 := hid (R13.out.below bb R13.out.lt)
      have R14 := hid (R14.out.below bb R14.out.lt)
      have R16 := hid r1; have HVc := hid hVc
      clear r1 bb hVc q6
      go_upto_region 14 with fail
      rw [← HVc.out]
      go_wp2_with fail
      refine (HFS.out _ q7).mono ?_
      rintro e W4 ⟨rfl, hB⟩
      have q8 := q7.trans (hB.mono q7.size)
      have R10 := hid (R10.out.below hB R10.out.lt)
      have R11 := hid (R11.out.below hB R11.out.lt)
      have R13 := hid (R13.out.below hB R13.out.lt)
      have R14 := hid (R14.out.below hB R14.out.lt)
      have R16 := hid (R16.out.below hB R16.out.lt)
      clear hB q7
      obtain ⟨V, hVd⟩ : ∃ X, X = W4.alloc (.cells #[.int .i64 P, .int .i64 K] 28) := ⟨_, rfl⟩
      obtain ⟨r1, bb, -⟩ := box1_b W4 28 (.int .i64 P) (.int .i64 K) V hVd
      have q9 := q8.trans (bb.mono q8.size)
      have R10 := hid (R10.out.below bb R10.out.lt)
      have R11 := hid (R11.out.below bb R11.out.lt)
      have R13 := hid (R13.out.below bb R13.out.lt)
      have R14 := hid (R14.out.below bb R14.out.lt)
      have R16 := hid (R16.out.below bb R16.out.lt)
      have R18 := hid r1; have HVd := hid hVd
      clear r1 bb hVd q8
      go_upto_region 15 with fail
      rw [← HVd.out]
      obtain ⟨x10, y10, _, _⟩ := box2_at R10.out
      obtain ⟨x11, y11, _, _⟩ := box2_at R11.out
      obtain ⟨x13, y13, _, _⟩ := box2_at R13.out
      obtain ⟨x14, y14, _, _⟩ := box2_at R14.out
      obtain ⟨x16, y16, _, _⟩ := box2_at R16.out
      obtain ⟨x18, y18, _, _⟩ := box2_at R18.out
      have hE1 : ∀ w, Sem.run Tryd.prog (binOp .neq 28 (.agg #[.int .i64 A, .int .i64 B]) (.agg #[.int .i64 A, .int .i64 B])) w = .ok (.bool false) w := portion_neq A B
      have hE2 : ∀ w, Sem.run Tryd.prog (binOp .neq 28 (.agg #[.int .i64 C, .int .i64 D]) (.agg #[.int .i64 C, .int .i64 D])) w = .ok (.bool false) w := portion_neq C D
      have hE3 : ∀ w, Sem.run Tryd.prog (binOp .neq 28 (.agg #[.int .i64 P, .int .i64 K]) (.agg #[.int .i64 P, .int .i64 K])) w = .ok (.bool false) w := portion_neq P K
      have hE4 : ∀ w, Sem.run Tryd.prog (binOp .eql 28 (.agg #[.int .i64 P, .int .i64 K]) (.agg #[.int .i64 P, .int .i64 K])) w = .ok (.bool true) w := portion_eql P K
      have pb := HPB.out; have qb := HQB.out
      obtain ⟨a0, a1⟩ := FA.out; obtain ⟨b0, b1⟩ := FB.out; obtain ⟨c0, c1⟩ := FC.out; obtain ⟨d0, d1⟩ := FD.out
      obtain ⟨k1, kq, kb, pp0, ppa⟩ := CS.out
      have m1 : 0 ≤ A * q ∧ A * q ≤ 100001 * 12 := ⟨Int.mul_nonneg a0 (by omega), Int.mul_le_mul a1 qb.2 (by omega) (by omega)⟩
      have m2 : 0 ≤ p * B ∧ p * B ≤ 11 * 100000 := ⟨Int.mul_nonneg pb.1 (by omega), Int.mul_le_mul pb.2 b1 (by omega) (by omega)⟩
      have m3 : 0 ≤ p * D ∧ p * D ≤ 11 * 100000 := ⟨Int.mul_nonneg pb.1 (by omega), Int.mul_le_mul pb.2 d1 (by omega) (by omega)⟩
      have m4 : 0 ≤ C * q ∧ C * q ≤ 100001 * 12 := ⟨Int.mul_nonneg c0 (by omega), Int.mul_le_mul c1 qb.2 (by omega) (by omega)⟩
      have i1 := I1.out; have i2 := I2.out
      obtain ⟨z1, hz1⟩ : ∃ z, A * q = z := ⟨_, rfl⟩
      obtain ⟨z2, hz2⟩ : ∃ z, p * B = z := ⟨_, rfl⟩
      obtain ⟨z3, hz3⟩ : ∃ z, p * D = z := ⟨_, rfl⟩
      obtain ⟨z4, hz4⟩ : ∃ z, C * q = z := ⟨_, rfl⟩
      rw [hz1] at m1 i1; rw [hz2] at m2 i1; rw [hz3] at m3 i2; rw [hz4] at m4 i2
      have t1 : IntKind.i64.wrap (A * q) = z1 := (congrArg _ hz1).trans (IntWalk.i64_in _ (by omega))
      have t2 : IntKind.i64.wrap (p * B) = z2 := (congrArg _ hz2).trans (IntWalk.i64_in _ (by omega))
      have t3 : IntKind.i64.wrap (p * D) = z3 := (congrArg _ hz3).trans (IntWalk.i64_in _ (by omega))
      have t4 : IntKind.i64.wrap (C * q) = z4 := (congrArg _ hz4).trans (IntWalk.i64_in _ (by omega))
      have n1 : ¬ z2 < z1 := by omega
      have n2 : ¬ z4 ≤ z3 := by omega
      have n3 : ¬ q < K := by omega
      have n4 : ¬ K < 1 := by omega
      have key : (K = q ∧ ¬ p < P) ∨ ¬ K = q := by
        by_cases e : K = q
        · have := C5.out e; exact .inl ⟨e, by omega⟩
        · exact .inr e
      clear pb qb a0 a1 b0 b1 c0 c1 d0 d1 k1 kq kb pp0 ppa m1 m2 m3 m4 i1 i2 hz1 hz2 hz3 hz4 hkm
      have HQ9 := hid q9
      clear q9
      rcases key with ⟨hKq, hPp⟩ | hKq
      all_goals (
        go_upto_region 19 with fail
        clear t1 t2 t3 t4 n1 n2 n3 n4 hE1 hE2 hE3 x10 y10 x11 y11 x13 y13 x14 y14 x16 y16 x18 y18
        have HK := hid hKq
        clear hKq
        try clear hPp
        go_wp2_with fail
        go_loopw [20] (fun i wr => ∃ (j : Nat), j ≤ k ∧ i = .int .i64 j ∧ Below V.heap.size V wr) (fun i _ => k - (intOf i).toNat)
        case atStart => exact ⟨0, Nat.zero_le _, rfl, Below.refl _ _⟩
        case round =>
          obtain ⟨j, hj, rfl, hB⟩ := hrel
          have j0 : (0 : Int) ≤ (j : Int) := by omega
          have HB := hid hB
          clear hB
          by_cases hjk : j < k
          · have hjk' : (j : Int) < (k : Int) := by omega
            have hjl : j < js.length := by rw [HJL.out]; exact hjk
            obtain ⟨c0, c1⟩ := (HRR.out.below (HQ9.out.trans (HB.out.mono HQ9.out.size)) HRR.out.1).2.1 j hjl
            obtain ⟨x18, y18, _, _⟩ := box2_at (R18.out.below HB.out R18.out.lt)
            obtain ⟨e1, e2⟩ := C6.out j hjl
            obtain ⟨fx, fy, _, _⟩ := HFX.out.1 j hjl
            obtain ⟨gx, gy⟩ := HFX.out.2 j hjl
            obtain ⟨x, hx⟩ : ∃ x, rd js j = x := ⟨_, rfl⟩
            obtain ⟨y, hy⟩ : ∃ x, rv js j = x := ⟨_, rfl⟩
            rw [hx] at c0 e1 e2 fx gx
            rw [hy] at c1 e1 e2 fy gy
            obtain ⟨k1, kq, kb, pp0, ppa⟩ := CS.out
            have fa := FA.out
            have m1 : 0 ≤ x * P ∧ x * P ≤ 100000 * 100001 := ⟨Int.mul_nonneg (by omega) pp0, Int.mul_le_mul gx (by omega) pp0 (by omega)⟩
            obtain ⟨X, hX⟩ : ∃ X, x * P = X := ⟨_, rfl⟩
            rw [hX] at m1 e1 e2
            have v1 : IntKind.i64.wrap (x * P) = X := (congrArg _ hX).trans (IntWalk.i64_in _ (by omega))
            have td : X.tdiv K = y := by
              rw [Int.tdiv_eq_ediv_of_nonneg m1.1]
              have u1 := (Int.le_ediv_iff_mul_le (show 0 < K by omega)).2 e1
              have u2 := (Int.ediv_lt_iff_lt_mul (show 0 < K by omega)).2 e2
              omega
            have wy : IntKind.i64.wrap y = y := IntWalk.i64_in _ (by omega)
            have kne : K ≠ 0 := by omega
            have yy : (y != y) = false := by simp
            have wj : IntKind.i64.wrap ((j : Int) + 1) = (j : Int) + 1 := IntWalk.i64_in _ (by have := hk; omega)
            clear e1 e2 fx fy gx gy hx hy k1 kq kb pp0 ppa fa m1 hX hjl
            go_wp2_with fail
            go_quiet (fail)
            go_wp2_with fail
            go_roundw
            case rel => exact ⟨j + 1, by omega, by go_num, by first | exact below_drewN HB.out _ | exact below_drewN (below_drewN HB.out _) _⟩
            case measure => simp [intOf]; omega
          · have hjn : ¬ (j : Int) < (k : Int) := by omega
            go_wp2_with fail
            go_loopw [21] (fun d W => ∃ (t : Int), 1 ≤ t ∧ t ≤ 12 ∧ d = .int .i64 t ∧ Below V.heap.size V W) (fun d _ => 12 - (intOf d).toNat)
            case atStart => exact ⟨1, by omega, by omega, rfl, HB.out⟩
            case round =>
              obtain ⟨t, t1, t2, rfl, hB3⟩ := hrel
              have HB3 := hid hB3
              obtain ⟨x13, y13, _, _⟩ := box2_at (R13.out.below hB3 R13.out.lt)
              obtain ⟨x14, y14, _, _⟩ := box2_at (R14.out.below hB3 R14.out.lt)
              obtain ⟨x18, y18, _, _⟩ := box2_at (R18.out.below hB3 R18.out.lt)
              clear hB3
              by_cases htK : t < K
              · have fa := FA.out; have fb := FB.out; have fc := FC.out; have fd := FD.out
                obtain ⟨k1, kq, kb, pp0, ppa⟩ := CS.out
                have qb := HQB.out
                have c7 := C7.out t t1 htK
                have m1 : 0 ≤ A * t ∧ A * t ≤ 100001 * 12 := ⟨Int.mul_nonneg fa.1 (by omega), Int.mul_le_mul fa.2 t2 (by omega) (by omega)⟩
                have m2 : 0 ≤ C * t ∧ C * t ≤ 100001 * 12 := ⟨Int.mul_nonneg fc.1 (by omega), Int.mul_le_mul fc.2 t2 (by omega) (by omega)⟩
                obtain ⟨X, hX⟩ : ∃ X, A * t = X := ⟨_, rfl⟩
                obtain ⟨Y, hY⟩ : ∃ X, C * t = X := ⟨_, rfl⟩
                rw [hX] at m1 c7; rw [hY] at m2 c7
                have v1 : IntKind.i64.wrap (A * t) = X := (congrArg _ hX).trans (IntWalk.i64_in _ (by omega))
                have v2 : IntKind.i64.wrap (C * t) = Y := (congrArg _ hY).trans (IntWalk.i64_in _ (by omega))
                have v3 : IntKind.i64.wrap (X + B) = X + B := IntWalk.i64_in _ (by omega)
                have v4 : IntKind.i64.wrap (X + B - 1) = X + B - 1 := IntWalk.i64_in _ (by omega)
                have z0 : 0 ≤ (X + B - 1) / B := Int.ediv_nonneg (by omega) (by omega)
                have z1 : (X + B - 1) / B ≤ X + B - 1 := Int.ediv_le_self _ (by omega)
                obtain ⟨E, hE⟩ : ∃ E, (X + B - 1) / B = E := ⟨_, rfl⟩
                rw [hE] at z0 z1 c7
                have td : (X + B - 1).tdiv B = E := by rw [Int.tdiv_eq_ediv_of_nonneg (by omega)]; exact hE
                have v5 : IntKind.i64.wrap E = E := IntWalk.i64_in _ (by omega)
                have m3 : 0 ≤ E * D ∧ E * D ≤ 2000000 * 100000 := ⟨Int.mul_nonneg z0 (by omega), Int.mul_le_mul (by omega) fd.2 (by omega) (by omega)⟩
                obtain ⟨Z, hZ⟩ : ∃ E', E * D = E' := ⟨_, rfl⟩
                rw [hZ] at m3 c7
                have v6 : IntKind.i64.wrap (E * D) = Z := (congrArg _ hZ).trans (IntWalk.i64_in _ (by omega))
                have n1 : ¬ Z < Y := by omega
                have bne : B ≠ 0 := by omega
                have wt' : IntKind.i64.wrap (t + 1) = t + 1 := IntWalk.i64_in _ (by omega)
                have HT := hid (show 1 ≤ t + 1 ∧ t + 1 ≤ 12 by omega)
                clear fa fb fc fd k1 kq kb pp0 ppa qb c7 m1 m2 m3 hX hY hE hZ z0 z1
                go_wp2_with fail
                go_roundw
                case rel => exact ⟨t + 1, HT.out.1, HT.out.2, rfl, HB3.out⟩
                case measure => have := HT.out; simp [intOf]; omega
              · go_wp2_with fail
                refine (HS1.out _).mono ?_
                rintro e W5 ⟨rfl, hB⟩
                have p1 := HB3.out.trans (hB.mono HB3.out.size)
                clear hB x13 y13 x14 y14 x18 y18
                obtain ⟨Ve, hVe⟩ : ∃ X, X = W5.alloc (.cells #[.int .i64 P, .int .i64 K] 28) := ⟨_, rfl⟩
                obtain ⟨r1, bb, -⟩ := box1_b W5 28 (.int .i64 P) (.int .i64 K) Ve hVe
                have p2 := p1.trans (bb.mono p1.size)
                have R23 := hid r1; have HVe := hid hVe
                clear r1 bb hVe p1
                go_upto_region 31 with fail
                rw [← HVe.out]
                obtain ⟨x13, y13, _, _⟩ := box2_at (R13.out.below p2 R13.out.lt)
                obtain ⟨x14, y14, _, _⟩ := box2_at (R14.out.below p2 R14.out.lt)
                go_wp2_with fail
                refine (HS2.out _).mono ?_
                rintro e W6 ⟨rfl, hB⟩
                have p3 := p2.trans (hB.mono p2.size)
                have R23 := hid (R23.out.below hB R23.out.lt)
                clear hB x13 y13 x14 y14 p2
                obtain ⟨Vf, hVf⟩ : ∃ X, X = W6.alloc (.cells #[.int .i64 0, .int .i64 0] 28) := ⟨_, rfl⟩
                obtain ⟨r1, bb, -⟩ := box1_b W6 28 (.int .i64 0) (.int .i64 0) Vf hVf
                have p4 := p3.trans (bb.mono p3.size)
                obtain ⟨x23, y23, _, _⟩ := box2_at (R23.out.below bb R23.out.lt)
                have HVf := hid hVf
                clear r1 bb hVf p3
                go_upto_region 32 with fail
                rw [← HVf.out]
                obtain ⟨x18, y18, _, _⟩ := box2_at (R18.out.below p4 R18.out.lt)
                have HP4 := hid p4
                clear p4
                go_wp2_with fail
                go_ret
                exact ⟨rfl, HB0.out.trans ((HQ9.out.trans (HP4.out.mono HQ9.out.size)).mono HB0.out.size)⟩)
set_option maxRecDepth 100000 in
set_option maxHeartbeats 1000000 in
theorem law_FnPortions (a : Option Addr) (len cap : Nat) (zs : List Int) (a' : Option Addr) (len' cap' : Nat) (zs' : List Int) (w : World) (h : InB w a len zs) (h' : InB w a' len' zs') (hG : GV w) :
    Calls Tryd.prog 3 #[.slice a len cap, .slice a' len' cap'] w fun e w' => e = .returned (.bool true) ∧ Below w.heap.size w w' := by
  by_cases hl : len ≤ 3000 ∧ len' ≤ 3000
  · exact law_FnPortions_in a len cap zs a' len' cap' zs' w h h' hl.1 hl.2 hG
  · have F1 := hid (a2Long_yes a len cap a' len' cap' w (by omega))
    clear h h' hl hG
    go_enter Tryd.func3, Tryd.ntmps3
    go_wp2_with fail
    with_reducible refine F1.out.mono ?_
    rintro e w1 ⟨rfl, hw⟩
    subst hw
    go_wp2_with fail
    go_ret
    exact ⟨rfl, Below.refl _ _⟩
end Go.Proofs.YtihadhbgkjbkeaaDoor
