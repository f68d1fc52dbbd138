/- BackTrain, the model's. -/
import Derived.Test.YteangabkpaamcaaBackI
import Derived.Test.YteangabkpaamcaaHeld
import Derived.Deep.RegionHeld3
namespace Go.Proofs.Yteangabkpaamcaa
open Go.RowKit
set_option linter.unusedSimpArgs false
theorem oper_append_own {P : Program} (w : World) {o : Oper} {a : Act} {K : Act → World → Prop} {Q : Exit → Act → World → Prop}
    (s x : Operand) (t : TypeId) (hop : o.op = Op.call { callee := Callee.builtin Builtin.append, args := #[s, x], argTypes := #[t, t] })
    (base : Nat) (e : TypeId) (i : TypeInfo) (z : Value) (size bytes : Nat) (h1 : P.underlying t = some (.slice e)) (h2 : P.info? e = some i) (h3 : i.zero = some z) (h4 : i.size = size) (h5 : i.bytes = bytes) (h6 : z.cells.size = size) (h7 : 0 < size)
    (v : Value) (k : Nat) (xs : List Value) (hs : a.eval s = v) (hown : w.ownsRow base e size v k xs) (ad : Addr) (m c : Nat) (news : List Value) (hx : a.eval x = .slice (some ad) m c) (hn : news.length = m * size)
    (hc : ∀ j u, news[j]? = some u → w.cell? (ad.add j) = some u) (h1c : ∀ u ∈ news, u.oneCell' = true) (b1 : k + m ≤ maxLen) (b2 : (k + m) * bytes ≤ 140737488355328) (b3 : base ≤ w.heap.size)
    (hK : ∀ v' w', w'.ownsRow base e size v' (k + m) (xs ++ news) → w.grownBy w' v.ownBlock → K (a.put o.dst v') w') : Oper.wp P o a w K Q := by
  obtain ⟨v', w', hrun, r1, r2, r3⟩ := run_append_own (P := P) w base t o.type e i z size bytes h1 h2 h3 h4 h5 h6 h7 v k xs hown ad m c news hn hc h1c b1 b2 b3
  unfold Oper.wp
  simp [execOp, hop, resolve, invoke, builtin, hs, hx, hrun, Result.andThen]
  exact hK _ _ r1 r2
set_option maxRecDepth 100000 in
set_option maxHeartbeats 4000000 in
theorem specBackT_any (b n cap : Nat) (js : List (Int × Int)) (hn : n = js.length) (hbd : Bd16 js) (w : World) (hS : Pst w b js) :
    Calls Try.prog 12 #[.slice (some ⟨b, 0, none⟩) n cap] w (TrainR w (backT js)) := by
  obtain ⟨i0, hi, iz0, iz1, iz2⟩ := info_parts Try.infoPair
  have hle := hS.2.2
  rw [← hn] at hle
  have HV := hid (l03Train_any b n cap js w hS hn hbd)
  have hC := hid hS.2.1
  have hbl := hS.1
  clear hS hbd
  cases hv : okT js with
  | false =>
    rw [backT_no hv]
    rw [hv] at HV
    clear hv hn
    go_enter Try.func12, Try.ntmps12
    go_wp2_with fail
    refine HV.out.mono ?_
    rintro e w1 ⟨rfl, d, rfl⟩
    go_wp2_with fail
    go_ret2
    exact ⟨_, rfl, OwnP.nil _ _ _ _, (below_drewN (Below.refl _ w) d).alloc (Nat.le_refl _) _⟩
  | true =>
    rw [backT_yes hv, ← hn]
    have h4 := (okT_out hv).2.1
    rw [hv] at HV
    have hn4 : n ≤ 4 := by omega
    have t0 : IntKind.i64.wrap ((n : Int) - 1) = (n : Int) - 1 := IntWalk.i64_in _ (by omega)
    have hN := hid hn
    clear hv hn h4
    go_enter Try.func12, Try.ntmps12
    go_wp2_with fail
    refine HV.out.mono ?_
    rintro e w1 ⟨rfl, d0, hw1⟩
    have hB1 : Below w.heap.size w w1 := by rw [hw1]; exact below_drewN (Below.refl _ w) d0
    clear hw1
    have rE := Row.new w1 54 []
    have B0 := hid (hB1.alloc hB1.size (.cells #[] 54))
    have O0 := hid (show (w1.alloc (.cells #[] 54)).ownsRow w.heap.size 54 2 (.slice (some ⟨w1.heap.size, 0, none⟩) 0 0) 0 (pvals []) from ⟨rfl, .inr ⟨w1.heap.size, 0, #[], rfl, hB1.size, rE, by omega, by unfold maxLen; omega, rfl, rfl⟩⟩)
    clear rE
    have HC := hid (fun (Y : World) (h : Below w.heap.size w Y) (d : Nat) (hd : d < n) => And.intro ((h.cell (p := ⟨b, d * 2, none⟩) hbl).trans (hC.out d (by rw [← hN.out]; exact hd)).1) ((h.cell (p := ⟨b, d * 2 + 1, none⟩) hbl).trans (hC.out d (by rw [← hN.out]; exact hd)).2))
    go_wp2_with fail
    go_loopw [4, 5] (fun v i wr => ∃ (k c : Nat) (z : Int), k + c = n ∧ i = .int .i64 z ∧ z = (c : Int) - 1 ∧ wr.ownsRow w.heap.size 54 2 v k (pvals (backL js k)) ∧ Below w.heap.size w wr) (fun _ i _ => (intOf i + 1).toNat)
    case atStart => exact ⟨0, n, (n : Int) - 1, by omega, rfl, rfl, O0.out, B0.out⟩
    case round =>
      obtain ⟨k, c, z, hkc, rfl, hz, hown, hB⟩ := hrel
      have HO := hid hown
      have hzr := hB.size
      have HKC := hid hkc
      by_cases h0c : c = 0
      · have hzn : ¬ (0 : Int) ≤ z := by omega
        have hzn2 : z < 0 := by omega
        obtain rfl : k = n := by omega
        have HI := hid (OwnP.of_owns HO.out (by rw [backL_len]; omega))
        clear hown hz hkc
        go_wp2_with fail
        go_ret2
        exact ⟨_, rfl, HI.out, hB⟩
      · obtain ⟨d, hd⟩ : ∃ d, c = d + 1 := ⟨c - 1, by omega⟩
        obtain rfl : z = (d : Int) := by omega
        have hdn : d < n := by omega
        have hk4 : k ≤ 4 := by omega
        have hd0 : (0 : Int) ≤ (d : Int) := by omega
        have hdn' : (d : Int) < (n : Int) := by omega
        have tz : IntKind.i64.wrap ((d : Int) - 1) = (d : Int) - 1 := IntWalk.i64_in _ (by omega)
        have HS := hid (backL_succ js k)
        rw [show js.length - 1 - k = d by rw [← hN.out]; omega] at HS
        have HD := hid hd
        have HCD := hid (fun Y h => HC.out Y h d hdn)
        obtain ⟨x, hx⟩ : ∃ p, pd js d = p := ⟨_, rfl⟩
        obtain ⟨y, hy⟩ : ∃ p, pn js d = p := ⟨_, rfl⟩
        rw [hx, hy] at HCD HS
        clear hown hz hkc hx hy hd
        have bD := hB.drew
        have OD := owns_belowP HO.out ((Below.refl wr.heap.size wr).drew)
        go_wp2_with fail
        refine wp_region_held (S := fun W' : World => W'.cell? ⟨b, d * 2, none⟩ = some (.int .i16 x) ∧ W'.cell? ⟨b, d * 2 + 1, none⟩ = some (.int .i16 y)) (by kernel_rfl) ?_
        change wpAnyH _ _ _ _ _ _ _ _ (World.drew _)
        have hS0 : (fun W' : World => W'.cell? ⟨b, d * 2, none⟩ = some (.int .i16 x) ∧ W'.cell? ⟨b, d * 2 + 1, none⟩ = some (.int .i16 y)) wr.drew := HCD.out _ bD
        refine wpAnyH_takeD (some 18) (i := 0) (v := ?_) rfl rfl (by kernel_rfl) (by kernel_rfl) (by kernel_rfl) (fun _ _ _ h => h) (.inl ⟨by kernel_rfl, ?_⟩) hS0 ?_
        rotate_left
        · intro w' hw'; obtain ⟨hw1, hw2⟩ := hw'; go_simp; try with_reducible rfl
        try simp only [Act.put, List.setIfInBounds_toArray, List.set_cons_zero, List.set_cons_succ]
        refine wpAnyH_takeD (some 19) (i := 1) (v := ?_) rfl rfl (by kernel_rfl) (by kernel_rfl) (by kernel_rfl) (fun _ _ _ h => h) (.inl ⟨by kernel_rfl, ?_⟩) hS0 ?_
        rotate_left
        · intro w' hw'; obtain ⟨hw1, hw2⟩ := hw'; go_simp; try with_reducible rfl
        try simp only [Act.put, List.setIfInBounds_toArray, List.set_cons_zero, List.set_cons_succ]
        refine wpAnyH_takeD (some 20) (i := 2) (v := ?_) rfl rfl (by kernel_rfl) (by kernel_rfl) (by kernel_rfl) (fun _ _ _ h => h) (.inl ⟨by kernel_rfl, ?_⟩) hS0 ?_
        rotate_left
        · intro w' hw'; obtain ⟨hw1, hw2⟩ := hw'; go_simp; try with_reducible rfl
        try simp only [Act.put, List.setIfInBounds_toArray, List.set_cons_zero, List.set_cons_succ]
        refine wpAnyH_takeD (some 21) (i := 3) (v := ?_) rfl rfl (by kernel_rfl) (by kernel_rfl) (by kernel_rfl) (fun _ _ _ h => h) (.inl ⟨by kernel_rfl, ?_⟩) hS0 ?_
        rotate_left
        · intro w' hw'; obtain ⟨hw1, hw2⟩ := hw'; go_simp; try with_reducible rfl
        try simp only [Act.put, List.setIfInBounds_toArray, List.set_cons_zero, List.set_cons_succ]
        refine wpAnyH_takeD (some 22) (i := 4) (v := ?_) rfl rfl (by kernel_rfl) (by kernel_rfl) (by kernel_rfl) (fun _ _ _ h => h) (.inl ⟨by kernel_rfl, ?_⟩) hS0 ?_
        rotate_left
        · intro w' hw'; obtain ⟨hw1, hw2⟩ := hw'; go_simp; try with_reducible rfl
        try simp only [Act.put, List.setIfInBounds_toArray, List.set_cons_zero, List.set_cons_succ]
        refine wpAnyH_takeD (some 23) (i := 5) (v := ?_) rfl rfl (by kernel_rfl) (by kernel_rfl) (by kernel_rfl) (fun _ _ _ h => h) (.inl ⟨by kernel_rfl, ?_⟩) hS0 ?_
        rotate_left
        · intro w' hw'; obtain ⟨hw1, hw2⟩ := hw'; go_simp; try with_reducible rfl
        try simp only [Act.put, List.setIfInBounds_toArray, List.set_cons_zero, List.set_cons_succ]
        refine wpAnyH_takeD (some 24) (i := 6) (v := ?_) rfl rfl (by kernel_rfl) (by kernel_rfl) (by kernel_rfl) (fun _ _ _ h => h) (.inl ⟨by kernel_rfl, ?_⟩) hS0 ?_
        rotate_left
        · intro w' hw'; obtain ⟨hw1, hw2⟩ := hw'; go_simp; try with_reducible rfl
        try simp only [Act.put, List.setIfInBounds_toArray, List.set_cons_zero, List.set_cons_succ]
        refine wpAnyH_takeD (some 25) (i := 7) (v := ?_) rfl rfl (by kernel_rfl) (by kernel_rfl) (by kernel_rfl) (fun _ _ _ h => h) (.inl ⟨by kernel_rfl, ?_⟩) hS0 ?_
        rotate_left
        · intro w' hw'; obtain ⟨hw1, hw2⟩ := hw'; go_simp; try with_reducible rfl
        try simp only [Act.put, List.setIfInBounds_toArray, List.set_cons_zero, List.set_cons_succ]
        refine wpAnyH_takeD (some 26) (i := 8) (v := ?_) rfl rfl (by kernel_rfl) (by kernel_rfl) (by kernel_rfl) (fun _ _ _ h => h) (.inl ⟨by kernel_rfl, ?_⟩) hS0 ?_
        rotate_left
        · intro w' hw'; obtain ⟨hw1, hw2⟩ := hw'; go_simp; try with_reducible rfl
        try simp only [Act.put, List.setIfInBounds_toArray, List.set_cons_zero, List.set_cons_succ]
        refine wpAnyH_takeD (some 27) (i := 9) (v := ?_) rfl rfl (by kernel_rfl) (by kernel_rfl) (by kernel_rfl) (fun _ _ _ h => h) (.inl ⟨by kernel_rfl, ?_⟩) hS0 ?_
        rotate_left
        · intro w' hw'; obtain ⟨hw1, hw2⟩ := hw'; go_simp; try with_reducible rfl
        try simp only [Act.put, List.setIfInBounds_toArray, List.set_cons_zero, List.set_cons_succ]
        refine wpAnyH_takeD (some 28) (i := 10) (v := ?_) rfl rfl (by kernel_rfl) (by kernel_rfl) (by kernel_rfl) (fun _ _ _ h => h) (.inl ⟨by kernel_rfl, ?_⟩) hS0 ?_
        rotate_left
        · intro w' hw'; obtain ⟨hw1, hw2⟩ := hw'; go_simp; try with_reducible rfl
        try simp only [Act.put, List.setIfInBounds_toArray, List.set_cons_zero, List.set_cons_succ]
        refine wpAnyH_takeD (some 29) (i := 11) (v := ?_) rfl rfl (by kernel_rfl) (by kernel_rfl) (by kernel_rfl) (fun _ _ _ h => h) (.inl ⟨by kernel_rfl, ?_⟩) hS0 ?_
        rotate_left
        · intro w' hw'; obtain ⟨hw1, hw2⟩ := hw'; go_simp; try with_reducible rfl
        try simp only [Act.put, List.setIfInBounds_toArray, List.set_cons_zero, List.set_cons_succ]
        have hS1 := HCD.out _ (bD.alloc bD.size (.cells #[.int .i16 y, .int .i16 x] 54))
        have O1 := OD.alloc (.cells #[.int .i16 y, .int .i16 x] 54)
        have news := Row.new wr.drew 54 [.int .i16 y, .int .i16 x]
        have n0 := news.cell 0
        have n1 := news.cell 1
        simp only [List.getElem?_cons_zero, List.getElem?_cons_succ, World.size_drew] at n0 n1
        refine wpAnyH_all (rs := [12]) (by kernel_rfl) (by simp) ?_
        intro i hi; simp only [List.mem_singleton] at hi; subst hi
        refine wpOp_step rfl (fun K hK => ?_)
        go_simp
        refine hK _ _ ⟨hS1, ?_⟩
        try simp only [Act.put, List.setIfInBounds_toArray, List.set_cons_zero, List.set_cons_succ]
        refine wpAnyH_all (rs := [13]) (by kernel_rfl) (by simp) ?_
        intro i hi'; simp only [List.mem_singleton] at hi'; subst hi'
        refine wpOp_step rfl (fun K hK => ?_)
        rw [if_pos (by kernel_rfl)]
        refine oper_append_own _ _ _ 33 rfl w.heap.size 54 i0 (.agg #[.int .i16 0, .int .i16 0]) 2 4 Try.underlying33 hi iz0 iz1 iz2 rfl (by decide) _ _ _ rfl O1 ⟨wr.heap.size, 0, none⟩ 1 1 [.int .i16 y, .int .i16 x] rfl rfl (by intro j u hj; match j, hj with | 0, hj => simp at hj; subst hj; simp [Addr.add, n0] | 1, hj => simp at hj; subst hj; simp [Addr.add, n1]) (by intro u hu; simp at hu; rcases hu with rfl | rfl <;> rfl) (by unfold maxLen; omega) (by omega) (by simp; omega) ?_
        intro v' w2 hown' hgrow
        have B2 : Below w.heap.size w w2 := (bD.alloc bD.size (.cells #[.int .i16 y, .int .i16 x] 54)).grown hgrow (by simp; omega) (fun q e => by by_cases hq : w.heap.size ≤ q; exact hq; exact absurd e.symm (owns_lt O1 (by omega)))
        have hS2 := HCD.out _ B2
        refine hK _ _ ⟨hS2, ?_⟩
        try simp only [Act.put, List.setIfInBounds_toArray, List.set_cons_zero, List.set_cons_succ]
        refine wpAnyH_takeD (some 4) (i := 14) (v := ?_) rfl rfl (by kernel_rfl) (by kernel_rfl) (by kernel_rfl) (fun _ _ _ h => h) (.inl ⟨by kernel_rfl, ?_⟩) hS2 ?_
        rotate_left
        · intro w' hw'; obtain ⟨hw1, hw2⟩ := hw'; go_simp; try with_reducible rfl
        try simp only [Act.put, List.setIfInBounds_toArray, List.set_cons_zero, List.set_cons_succ]
        refine wpAnyH_done (by kernel_rfl) ?_ _
        go_wp2_with fail
        go_roundw
        case rel => exact ⟨k + 1, d, (d : Int) - 1, by have := HKC.out; have := HD.out; omega, by first | rfl | go_num, rfl, by rw [HS.out, pvals_snoc]; exact hown', B2⟩
        case measure => simp [intOf] <;> omega
end Go.Proofs.Yteangabkpaamcaa
