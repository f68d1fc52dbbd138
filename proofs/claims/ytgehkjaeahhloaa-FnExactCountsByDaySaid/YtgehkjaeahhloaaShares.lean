/- SharesOf: the model's, the program's, the law. -/
import Derived.Test.YtgehkjaeahhloaaGrow
import Derived.Deep.RegionHeld3
namespace Go.Proofs.Ytgehkjaeahhloaa
open Go.RowKit
set_option linter.unusedVariables false
set_option linter.unusedSimpArgs false
theorem oper_append_own {P : Program} (w : World) {o : Oper} {a : Act} {K : Act → World → Prop} {Q : Exit → Act → World → Prop}
    (s x : Operand) (t : TypeId) (hop : o.op = Op.call { callee := Callee.builtin Builtin.append, args := #[s, x], argTypes := #[t, t] })
    (base : Nat) (e : TypeId) (i : TypeInfo) (z : Value) (size bytes : Nat) (h1 : P.underlying t = some (.slice e)) (h2 : P.info? e = some i) (h3 : i.zero = some z) (h4 : i.size = size) (h5 : i.bytes = bytes) (h6 : z.cells.size = size) (h7 : 0 < size)
    (v : Value) (k : Nat) (xs : List Value) (hs : a.eval s = v) (hown : w.ownsRow base e size v k xs) (ad : Addr) (m c : Nat) (news : List Value) (hx : a.eval x = .slice (some ad) m c) (hn : news.length = m * size)
    (hc : ∀ j u, news[j]? = some u → w.cell? (ad.add j) = some u) (h1c : ∀ u ∈ news, u.oneCell' = true) (b1 : k + m ≤ maxLen) (b2 : (k + m) * bytes ≤ 140737488355328) (b3 : base ≤ w.heap.size)
    (hK : ∀ v' w', w'.ownsRow base e size v' (k + m) (xs ++ news) → w.grownBy w' v.ownBlock → K (a.put o.dst v') w') : Oper.wp P o a w K Q := by
  obtain ⟨v', w', hrun, r1, r2, r3⟩ := run_append_own (P := P) w base t o.type e i z size bytes h1 h2 h3 h4 h5 h6 h7 v k xs hown ad m c news hn hc h1c b1 b2 b3
  unfold Oper.wp
  simp [execOp, hop, resolve, invoke, builtin, hs, hx, hrun, Result.andThen]
  exact hK _ _ r1 r2
def shR (c d : Int) : List Int × Int := if (0 ≤ c ∧ c ≤ 1000000000000) ∧ (1 ≤ d ∧ d ≤ 400) then (grL (fun a => a * c / d) 0 d.toNat, 0) else ([], 2)
theorem shR_no {c d : Int} (h : ¬ ((0 ≤ c ∧ c ≤ 1000000000000) ∧ (1 ≤ d ∧ d ≤ 400))) : shR c d = ([], 2) := by rw [shR, if_neg h]
theorem shR_yes {c d : Int} (h : 0 ≤ c ∧ c ≤ 1000000000000) (k : 1 ≤ d ∧ d ≤ 400) : shR c d = (grL (fun a => a * c / d) 0 d.toNat, 0) := by rw [shR, if_pos ⟨h, k⟩]
theorem share_bd {c d a : Int} (hc : 0 ≤ c ∧ c ≤ 1000000000000) (hd : 1 ≤ d ∧ d ≤ 400) (h0 : 0 ≤ a) (h1 : a ≤ 400) : 0 ≤ a * c ∧ a * c ≤ 400000000000000 ∧ (a * c).tdiv d = a * c / d ∧ 0 ≤ a * c / d ∧ a * c / d ≤ 400000000000000 := by
  have p := Int.mul_nonneg h0 hc.1
  have q : a * c ≤ 400 * 1000000000000 := Int.mul_le_mul h1 hc.2 hc.1 (by omega)
  obtain ⟨e1, e2, e3⟩ := quo_bd p hd.1
  exact ⟨p, by omega, e1, e2, by omega⟩
set_option maxRecDepth 100000 in
set_option maxHeartbeats 4000000 in
theorem specSharesOf_any (c d : Int) (hc64 : I64 c) (hd64 : I64 d) (w : World) : Calls Try.prog 46 #[.int .i64 c, .int .i64 d] w (OwnR w (shR c d)) := by
  have HP := hid (fun w => positive_any c w)
  have HD := hid (fun w => inr_any d 1 400 w)
  by_cases hc : 0 ≤ c ∧ c ≤ 1000000000000
  · rw [in_yes hc] at HP
    by_cases hd : 1 ≤ d ∧ d ≤ 400
    · rw [shR_yes hc hd]
      rw [in_yes hd] at HD
      obtain ⟨i0, hi, iz0, iz1, iz2⟩ := info_parts Try.infoI64'
      have oW : (w.alloc (.cells #[] 2)).ownsRow w.heap.size 2 1 (.slice (some ⟨w.heap.size, 0, none⟩) 0 0) 0 [] := by
        have h := Row.new w 2 []
        exact ⟨rfl, .inr ⟨w.heap.size, 0, #[], rfl, by omega, h, by omega, by unfold maxLen; omega, rfl, rfl⟩⟩
      have OW := hid oW
      have BW := hid (show Below w.heap.size w (w.alloc (.cells #[] 2)) from (Below.refl _ _).alloc (Nat.le_refl _) _)
      have hcc := hid hc
      have hdd := hid hd
      clear oW hc hd hc64 hd64
      go_enter Try.func46, Try.ntmps46
      go_wp2_with fail
      refine (HP.out _).mono ?_
      rintro e w1 ⟨rfl, rfl⟩
      go_wp2_with fail
      refine (HD.out _).mono ?_
      rintro e w1 ⟨rfl, rfl⟩
      go_wp2_with fail
      go_loopw [6, 7] (fun v s wr => ∃ k : Nat, s = .int .i64 k ∧ (k : Int) ≤ d ∧ wr.ownsRow w.heap.size 2 1 v k ((grL (fun a => a * c / d) 0 k).map (Value.int .i64)) ∧ Below w.heap.size w wr) (fun _ s _ => (d - intOf s).toNat)
      case atStart => exact ⟨0, rfl, by have := hdd.out; omega, OW.out, BW.out⟩
      case round =>
        obtain ⟨k, rfl, hkd, hown, hB⟩ := hrel
        have hzr := hB.size
        have HO := hid hown
        have HB := hid hB
        have hk0 : (0 : Int) ≤ (k : Int) := by omega
        clear hown hB
        by_cases hlt : (k : Int) < d
        · obtain ⟨a1, a2, a3, a4, a5⟩ := share_bd hcc.out hdd.out (a := (k : Int) + 1) (by omega) (by have := hdd.out; omega)
          obtain ⟨b1, b2, b3, b4, b5⟩ := share_bd hcc.out hdd.out (a := (k : Int)) (by omega) (by have := hdd.out; omega)
          have HS := hid (show grL (fun a => a * c / d) 0 (k + 1) = grL (fun a => a * c / d) 0 k ++ [((k : Int) + 1) * c / d - (k : Int) * c / d] by rw [grL_succ]; simp)
          have m1 : c * ((k : Int) + 1) = ((k : Int) + 1) * c := Int.mul_comm _ _
          have m2 : c * (k : Int) = (k : Int) * c := Int.mul_comm _ _
          obtain ⟨X, hX⟩ : ∃ X, ((k : Int) + 1) * c = X := ⟨_, rfl⟩
          obtain ⟨Y, hY⟩ : ∃ X, (k : Int) * c = X := ⟨_, rfl⟩
          rw [hX] at a1 a2 a3 a4 a5 m1 HS
          rw [hY] at b1 b2 b3 b4 b5 m2 HS
          obtain ⟨x, hx⟩ : ∃ X', X / d = X' := ⟨_, rfl⟩
          obtain ⟨y, hy⟩ : ∃ X', Y / d = X' := ⟨_, rfl⟩
          rw [hx] at a3 a4 a5 HS
          rw [hy] at b3 b4 b5 HS
          obtain ⟨t, ht⟩ : ∃ t, x - y = t := ⟨_, rfl⟩
          rw [ht] at HS
          have tk : IntKind.i64.wrap ((k : Int) + 1) = (k : Int) + 1 := IntWalk.i64_in _ (by have := hdd.out; omega)
          have tX : IntKind.i64.wrap X = X := IntWalk.i64_in _ (by omega)
          have tY : IntKind.i64.wrap Y = Y := IntWalk.i64_in _ (by omega)
          have tx : IntKind.i64.wrap x = x := IntWalk.i64_in _ (by omega)
          have ty : IntKind.i64.wrap y = y := IntWalk.i64_in _ (by omega)
          have tt : IntKind.i64.wrap t = t := IntWalk.i64_in _ (by omega)
          have nd : d ≠ 0 := by have := hdd.out; omega
          have KB : k ≤ 400 := by have := hdd.out; omega
          have bD : Below wr.heap.size wr wr.drew := (Below.refl _ _).drew
          have HB1 := hid ((HB.out.trans (bD.mono hzr)).alloc (show w.heap.size ≤ wr.drew.heap.size by simpa using hzr) (.cells #[.int .i64 t] 2))
          have HO1 := hid ((owns_below HO.out bD).alloc (.cells #[.int .i64 t] 2))
          have news := Row.new wr.drew 2 [.int .i64 t]
          have nc := news.cell 0
          simp only [List.getElem?_cons_zero, World.size_drew] at nc
          have HX := hid hX
          have HY := hid hY
          clear news hX hY hx hy a1 a2 a4 a5 b1 b2 b4 b5
          go_wp2_with fail
          go_region_held3 (fun _ => True) (trivial)
            ((rw [if_pos (by kernel_rfl)]; refine oper_append_own _ _ _ 69 rfl w.heap.size 2 i0 (.int .i64 0) 1 8 Try.underlying69 hi iz0 iz1 iz2 rfl (by decide) _ _ _ rfl HO1.out ⟨wr.heap.size, 0, none⟩ 1 1 [.int .i64 t] rfl rfl (by intro j u hj; match j, hj with | 0, hj => simp at hj; subst hj; simp [Addr.add, nc]) (by intro u hu; simp at hu; subst hu; rfl) (by unfold maxLen; omega) (by omega) (by simp; omega) ?_; intro v' w2 hown' hgrow))
          have HB2 := hid (HB1.out.grown hgrow (by simp; omega) (fun k e => by have := (HO1.out.lt k e).1; omega))
          have hown2 := hid (show w2.ownsRow w.heap.size 2 1 v' (k + 1) ((grL (fun a => a * c / d) 0 (k + 1)).map (Value.int .i64)) by rw [HS.out, List.map_append]; exact hown')
          have HKD := hid (show ((k + 1 : Nat) : Int) ≤ d by omega)
          clear hown' hgrow nc HO1 HB1 ht
          go_wp2_with fail
          go_roundw
          case rel => exact ⟨k + 1, by go_num, HKD.out, hown2.out, HB2.out⟩
          case measure => simp [intOf]; omega
        · have HE := hid (show d.toNat = k by have := hdd.out; omega)
          have KB : k ≤ 400 := by have := hdd.out; omega
          go_wp2_with fail
          go_ret2
          exact ⟨_, rfl, by rw [HE.out]; exact OwnI.of_owns (n := k) HO.out (by rw [grL_len]; omega), HB.out⟩
    · rw [shR_no (fun h => hd h.2)]
      rw [in_no hd] at HD
      clear hc hd hc64 hd64
      go_enter Try.func46, Try.ntmps46
      go_wp2_with fail
      refine (HP.out _).mono ?_
      rintro e w1 ⟨rfl, rfl⟩
      go_wp2_with fail
      refine (HD.out _).mono ?_
      rintro e w1 ⟨rfl, rfl⟩
      go_wp2_with fail
      go_ret2
      exact ⟨_, rfl, OwnI.nil _ _ _ _, (Below.refl _ _).alloc (Nat.le_refl _) _⟩
  · rw [shR_no (fun h => hc h.1)]
    rw [in_no hc] at HP
    clear hc hc64 hd64
    go_enter Try.func46, Try.ntmps46
    go_wp2_with fail
    refine (HP.out _).mono ?_
    rintro e w1 ⟨rfl, rfl⟩
    go_wp2_with fail
    go_ret2
    exact ⟨_, rfl, OwnI.nil _ _ _ _, (Below.refl _ _).alloc (Nat.le_refl _) _⟩
set_option maxRecDepth 100000 in
set_option maxHeartbeats 2000000 in
theorem implSharesOf_any (c d : Int) (hc64 : I64 c) (hd64 : I64 d) (w : World) : Calls Try.prog 47 #[.int .i64 c, .int .i64 d] w (OwnR w (shR c d)) := by
  have HP := hid (fun w => isCount_any c w)
  by_cases hc : 0 ≤ c ∧ c ≤ 1000000000000
  · rw [in_yes hc] at HP
    by_cases hd1 : d < 1
    · rw [shR_no (fun h => by omega)]
      clear hc hc64 hd64
      go_enter Try.func47, Try.ntmps47
      go_wp2_with fail
      refine (HP.out _).mono ?_
      rintro e w1 ⟨rfl, rfl⟩
      go_wp2_with fail
      go_ret2
      exact ⟨_, rfl, OwnI.nil _ _ _ _, Below.refl _ _⟩
    have hd1' : decide (d < 1) = false := decide_eq_false hd1
    by_cases hd2 : 400 < d
    · rw [shR_no (fun h => by omega)]
      clear hc hc64 hd64
      go_enter Try.func47, Try.ntmps47
      go_wp2_with fail
      refine (HP.out _).mono ?_
      rintro e w1 ⟨rfl, rfl⟩
      go_wp2_with fail
      go_ret2
      exact ⟨_, rfl, OwnI.nil _ _ _ _, Below.refl _ _⟩
    have hd2' : decide (400 < d) = false := decide_eq_false hd2
    have hd : 1 ≤ d ∧ d ≤ 400 := by omega
    rw [shR_yes hc hd]
    have HF := hid (fun (w : World) => growthP_any (fun a => a * c / d) c d 0 (d + 1) (by omega) (by omega) (fun a h1 h2 => by
      obtain ⟨_, _, _, e4, e5⟩ := share_bd hc hd (a := a) h1 (by omega)
      exact ⟨e4, by omega⟩) w (fun a h1 h2 w' _ => by
      obtain ⟨e1, e2, _, _, _⟩ := share_bd hc hd (a := a) h1 (by omega)
      exact of_any c d a e1 (by omega) hd.1 w'))
    rw [show (d + 1 - 1 - 0).toNat = d.toNat by omega] at HF
    have td : IntKind.i64.wrap (d + 1) = d + 1 := IntWalk.i64_in _ (by omega)
    have bel := hid (box2_bel w 42 (.int .i64 c) (.int .i64 d))
    clear hc hc64 hd64 hd
    go_enter Try.func47, Try.ntmps47
    go_wp2_with fail
    refine (HP.out _).mono ?_
    rintro e w1 ⟨rfl, rfl⟩
    go_wp2_with fail
    refine (HF.out _).mono ?_
    rintro e w2 ⟨v, rfl, hO, hB⟩
    have HO := hid (hO.base bel.out.size)
    have b2 := hid (bel.out.trans (hB.mono bel.out.size))
    clear hO hB
    go_wp2_with fail
    go_ret2
    exact ⟨_, rfl, HO.out, b2.out⟩
  · rw [shR_no (fun h => hc h.1)]
    rw [in_no hc] at HP
    clear hc hc64 hd64
    go_enter Try.func47, Try.ntmps47
    go_wp2_with fail
    refine (HP.out _).mono ?_
    rintro e w1 ⟨rfl, rfl⟩
    go_wp2_with fail
    go_ret2
    exact ⟨_, rfl, OwnI.nil _ _ _ _, Below.refl _ _⟩
end Go.Proofs.Ytgehkjaeahhloaa
