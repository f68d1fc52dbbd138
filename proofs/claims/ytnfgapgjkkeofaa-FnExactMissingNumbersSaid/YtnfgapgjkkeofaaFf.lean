/- FirstForged: the model's and the program's answers. -/
import Derived.Test.YtnfgapgjkkeofaaGenOf
import Derived.Test.YtnfgapgjkkeofaaGenAt
namespace Go.Proofs.Ytnfgapgjkkeofaa
open Go.RowKit Go.Maps
set_option linter.unusedVariables false
set_option linter.unusedSimpArgs false
/-- the number of the ticket ahead of the k-th, or 0 -/
def bfT (ts : List (Nat → Int)) (k : Nat) : Int := if k = 0 then 0 else tk ts (k - 1) 0
theorem bfT_zero (ts : List (Nat → Int)) : bfT ts 0 = 0 := rfl
theorem bfT_succ (ts : List (Nat → Int)) (k : Nat) : bfT ts (k + 1) = tk ts k 0 := by simp [bfT]
/-- a ticket that cannot be right -/
def badT (zs : List Int) (ts : List (Nat → Int)) (k : Nat) : Bool := !genF zs (ts[k]?.getD (fun _ => 0)) || decide (tk ts k 0 ≤ bfT ts k)
def ffGo (b : Nat → Bool) : Nat → Nat → Int × Int
  | 0, _ => (0, 6)
  | n + 1, i => if b i then ((i : Int), 0) else ffGo b n (i + 1)
theorem ffGo_yes {b : Nat → Bool} {n k : Nat} (hk : k < n) (h : b k = true) : ffGo b (n - k) k = ((k : Int), 0) := by
  obtain ⟨m, hm⟩ : ∃ m, n - k = m + 1 := ⟨n - k - 1, by omega⟩
  rw [hm, ffGo, if_pos h]
theorem ffGo_no {b : Nat → Bool} {n k : Nat} (hk : k < n) (h : b k = false) : ffGo b (n - k) k = ffGo b (n - (k + 1)) (k + 1) := by
  obtain ⟨m, hm⟩ : ∃ m, n - k = m + 1 := ⟨n - k - 1, by omega⟩
  have hm2 : n - (k + 1) = m := by omega
  rw [hm, ffGo, h, hm2]
  rfl
theorem ffGo_end {b : Nat → Bool} {n : Nat} : ffGo b (n - n) n = (0, 6) := by rw [Nat.sub_self]; rfl
/-- the first forged ticket, with a code -/
def ffR (zs : List Int) (ts : List (Nat → Int)) : Int × Int := if okL zs then (if ts.length ≤ 60 then ffGo (badT zs ts) ts.length 0 else (0, 3)) else (0, 1)
theorem ffR_no {zs : List Int} {ts : List (Nat → Int)} (h : okL zs = false) : ffR zs ts = (0, 1) := by simp [ffR, h]
theorem ffR_limit {zs : List Int} {ts : List (Nat → Int)} (h : okL zs = true) (k : 60 < ts.length) : ffR zs ts = (0, 3) := by rw [ffR, if_pos h, if_neg (by omega)]
theorem ffR_go {zs : List Int} {ts : List (Nat → Int)} (h : okL zs = true) (k : ts.length ≤ 60) : ffR zs ts = ffGo (badT zs ts) ts.length 0 := by rw [ffR, if_pos h, if_pos k]
theorem badT_gen {zs : List Int} {ts : List (Nat → Int)} {k : Nat} (h : genF zs (ts[k]?.getD (fun _ => 0)) = false) : badT zs ts k = true := by rw [badT, h]; rfl
theorem badT_rest {zs : List Int} {ts : List (Nat → Int)} {k : Nat} (h : genF zs (ts[k]?.getD (fun _ => 0)) = true) : badT zs ts k = decide (tk ts k 0 ≤ bfT ts k) := by rw [badT, h]; rfl
theorem genF_out {zs : List Int} {f : Nat → Int} (h : genF zs f = true) : 1 ≤ f 0 := by
  simp only [genF, gen, Bool.and_eq_true, decide_eq_true_eq] at h
  exact h.1.1
set_option maxRecDepth 100000 in
set_option maxHeartbeats 4000000 in
theorem implFirstForged_any (B m cap : Nat) (zs : List Int) (hm : m = zs.length) (b n cap' : Nat) (ts : List (Nat → Int)) (hn : n = ts.length) (w : World) (hS : Stk w B zs) (hT : Tst w b ts) (hb : ∀ j, j < ts.length → tkB (ts[j]?.getD (fun _ => 0))) :
    Calls Try.prog 9 #[.slice (some ⟨B, 0, none⟩) m cap, .slice (some ⟨b, 0, none⟩) n cap'] w fun e w' => e = .returned (.tuple #[.int .i64 (ffR zs ts).1, .int .i64 (ffR zs ts).2]) ∧ Below w.heap.size w w' := by
  have hl := hT.2.2
  rw [← hn] at hl
  have hbl := hT.1
  have hC := hid hT.2.1
  have HV := hid (genuineOf_any B m cap zs hm b n cap' ts hn w hS hT hb)
  have HN := hid hn
  have HTB := hid hb
  have E1 := hid (fun h => ffR_no (zs := zs) (ts := ts) h)
  have E2 := hid (fun h k => ffR_limit (zs := zs) (ts := ts) h k)
  have E3 := hid (fun h k => ffR_go (zs := zs) (ts := ts) h k)
  obtain ⟨Q, hQ⟩ : ∃ Q, ffR zs ts = Q := ⟨_, rfl⟩
  rw [hQ] at E1 E2 E3 ⊢
  clear hS hT hn hm hb hQ
  go_enter Try.func9, Try.ntmps9
  go_wp2_with fail
  refine HV.out.mono ?_
  rintro e w1 ⟨hB1, h⟩
  have HB1 := hid hB1
  rcases h with ⟨hv, rfl⟩ | ⟨hv, h60, rfl⟩ | ⟨hv, h60, M, rfl, hM, hTk⟩
  · have E := E1.out hv
    subst E
    clear hv hB1
    go_wp2_with fail
    go_ret2
    exact ⟨rfl, HB1.out⟩
  · have E := E2.out hv h60
    subst E
    clear hv h60 hB1
    go_wp2_with fail
    go_ret2
    exact ⟨rfl, HB1.out⟩
  · have E := E3.out hv h60
    rw [← HN.out] at E
    have HM := hid hM
    have HTK := hid hTk
    have H60 := hid h60
    have HE := hid (show ffGo (badT zs ts) (n - 0) 0 = Q from E.symm)
    have hz1 := hB1.size
    clear hv h60 hM hTk E hB1
    go_wp2_with fail
    go_loopw [8, 22] (fun v i wr => ∃ k : Nat, k ≤ n ∧ i = .int .i64 k ∧ v = .int .i64 (bfT ts k) ∧ ffGo (badT zs ts) (n - k) k = Q ∧ Below w1.heap.size w1 wr) (fun _ i _ => n - (intOf i).toNat)
    case atStart => exact ⟨0, Nat.zero_le _, rfl, rfl, HE.out, Below.refl _ _⟩
    case round =>
      obtain ⟨k, hk, rfl, rfl, hq, hB⟩ := hrel
      have HQ := hid hq
      by_cases hlt : k < n
      · have hlt' : (k : Int) < (n : Int) := by omega
        have hk0 : (0 : Int) ≤ (k : Int) := by omega
        have hzr := hB.size
        have HTBk := HTB.out k (by rw [← HN.out]; exact hlt)
        have hcc := hC.out k (by rw [← HN.out]; exact hlt)
        have HYES := hid (fun h => ffGo_yes (b := badT zs ts) hlt h)
        have HNO := hid (fun h => ffGo_no (b := badT zs ts) hlt h)
        have HBG := hid (fun h => badT_gen (zs := zs) (ts := ts) (k := k) h)
        have HBR := hid (fun h => badT_rest (zs := zs) (ts := ts) (k := k) h)
        obtain ⟨f, hf⟩ : ∃ f, ts[k]?.getD (fun _ => 0) = f := ⟨_, rfl⟩
        have hcc' : ∀ i, i < 10 → w.cell? ⟨b, k * 10 + i, none⟩ = some (tkv i (f i)) := fun i hi => by rw [hcc i hi, tk, hf]
        have ht0 : tk ts k 0 = f 0 := by rw [tk, hf]
        have HSU := hid (show bfT ts (k + 1) = f 0 by rw [bfT_succ, ht0])
        have HB0 := hid (fun (h : k = 0) => show bfT ts k = 0 by rw [h]; rfl)
        rw [hf] at HTBk HBG HBR
        rw [ht0] at HBR
        have HGO := hid (genF_out (zs := zs) (f := f))
        obtain ⟨l, hkl⟩ := keyTk HTBk
        have hat := HTK.out.2 k (by rw [← HN.out]; exact hlt) l (by rw [hf]; exact hkl)
        rw [hf] at hat
        obtain ⟨gv, hgv⟩ : ∃ z, genF zs f = z := ⟨_, rfl⟩
        rw [hgv] at hat HBG HBR HGO
        unfold tkVal at hkl
        have c0 := (hB.cell (p := ⟨b, k * 10, none⟩) (Nat.lt_of_lt_of_le hbl hz1)).trans ((HB1.out.cell (p := ⟨b, k * 10, none⟩) hbl).trans (hcc' 0 (by omega)))
        have c1 := (hB.cell (p := ⟨b, k * 10 + 1, none⟩) (Nat.lt_of_lt_of_le hbl hz1)).trans ((HB1.out.cell (p := ⟨b, k * 10 + 1, none⟩) hbl).trans (hcc' 1 (by omega)))
        have c2 := (hB.cell (p := ⟨b, k * 10 + 2, none⟩) (Nat.lt_of_lt_of_le hbl hz1)).trans ((HB1.out.cell (p := ⟨b, k * 10 + 2, none⟩) hbl).trans (hcc' 2 (by omega)))
        have c3 := (hB.cell (p := ⟨b, k * 10 + 3, none⟩) (Nat.lt_of_lt_of_le hbl hz1)).trans ((HB1.out.cell (p := ⟨b, k * 10 + 3, none⟩) hbl).trans (hcc' 3 (by omega)))
        have c4 := (hB.cell (p := ⟨b, k * 10 + 4, none⟩) (Nat.lt_of_lt_of_le hbl hz1)).trans ((HB1.out.cell (p := ⟨b, k * 10 + 4, none⟩) hbl).trans (hcc' 4 (by omega)))
        have c5 := (hB.cell (p := ⟨b, k * 10 + 5, none⟩) (Nat.lt_of_lt_of_le hbl hz1)).trans ((HB1.out.cell (p := ⟨b, k * 10 + 5, none⟩) hbl).trans (hcc' 5 (by omega)))
        have c6 := (hB.cell (p := ⟨b, k * 10 + 6, none⟩) (Nat.lt_of_lt_of_le hbl hz1)).trans ((HB1.out.cell (p := ⟨b, k * 10 + 6, none⟩) hbl).trans (hcc' 6 (by omega)))
        have c7 := (hB.cell (p := ⟨b, k * 10 + 7, none⟩) (Nat.lt_of_lt_of_le hbl hz1)).trans ((HB1.out.cell (p := ⟨b, k * 10 + 7, none⟩) hbl).trans (hcc' 7 (by omega)))
        have c8 := (hB.cell (p := ⟨b, k * 10 + 8, none⟩) (Nat.lt_of_lt_of_le hbl hz1)).trans ((HB1.out.cell (p := ⟨b, k * 10 + 8, none⟩) hbl).trans (hcc' 8 (by omega)))
        have c9 := (hB.cell (p := ⟨b, k * 10 + 9, none⟩) (Nat.lt_of_lt_of_le hbl hz1)).trans ((HB1.out.cell (p := ⟨b, k * 10 + 9, none⟩) hbl).trans (hcc' 9 (by omega)))
        obtain ⟨x0, hx0⟩ : ∃ x, f 0 = x := ⟨_, rfl⟩
        obtain ⟨x1, hx1⟩ : ∃ x, f 1 = x := ⟨_, rfl⟩
        obtain ⟨x2, hx2⟩ : ∃ x, f 2 = x := ⟨_, rfl⟩
        obtain ⟨x3, hx3⟩ : ∃ x, f 3 = x := ⟨_, rfl⟩
        obtain ⟨x4, hx4⟩ : ∃ x, f 4 = x := ⟨_, rfl⟩
        obtain ⟨x5, hx5⟩ : ∃ x, f 5 = x := ⟨_, rfl⟩
        obtain ⟨x6, hx6⟩ : ∃ x, f 6 = x := ⟨_, rfl⟩
        obtain ⟨x7, hx7⟩ : ∃ x, f 7 = x := ⟨_, rfl⟩
        obtain ⟨x8, hx8⟩ : ∃ x, f 8 = x := ⟨_, rfl⟩
        obtain ⟨x9, hx9⟩ : ∃ x, f 9 = x := ⟨_, rfl⟩
        rw [hx0] at c0
        rw [hx1] at c1
        rw [hx2] at c2
        rw [hx3] at c3
        rw [hx4] at c4
        rw [hx5] at c5
        rw [hx6] at c6
        rw [hx7] at c7
        rw [hx8] at c8
        rw [hx9] at c9
        change _ = some (Value.int .i64 x0) at c0
        change _ = some (Value.int .u8 x1) at c1
        change _ = some (Value.int .u8 x2) at c2
        change _ = some (Value.int .u8 x3) at c3
        change _ = some (Value.int .u8 x4) at c4
        change _ = some (Value.int .u8 x5) at c5
        change _ = some (Value.int .u8 x6) at c6
        change _ = some (Value.int .u8 x7) at c7
        change _ = some (Value.int .u8 x8) at c8
        change _ = some (Value.int .u16 x9) at c9
        rw [hx0, hx1, hx2, hx3, hx4, hx5, hx6, hx7, hx8, hx9] at hkl
        rw [hx0] at HSU HBR HGO
        obtain ⟨U, hU⟩ : ∃ U, U = wr.alloc (.cells #[.int .i64 x0, .int .u8 x1, .int .u8 x2, .int .u8 x3, .int .u8 x4, .int .u8 x5, .int .u8 x6, .int .u8 x7, .int .u8 x8, .int .u16 x9] 48) := ⟨_, rfl⟩
        have bU : Below wr.heap.size wr U := by rw [hU]; exact (Below.refl _ _).alloc (Nat.le_refl _) _
        have rB : Row U wr.heap.size 48 [.int .i64 x0, .int .u8 x1, .int .u8 x2, .int .u8 x3, .int .u8 x4, .int .u8 x5, .int .u8 x6, .int .u8 x7, .int .u8 x8, .int .u16 x9] := by rw [hU]; exact Row.new _ _ _
        have BU := hid (hB.trans (bU.mono hzr))
        have hLK := TM.look (HM.out.below BU.out) hkl hat
        have HU := hid hU
        obtain ⟨bf, hbf⟩ : ∃ z, bfT ts k = z := ⟨_, rfl⟩
        rw [hbf] at HBR HB0 ⊢
        have y0 := rB.cell 0; have y1 := rB.cell 1; have y2 := rB.cell 2; have y3 := rB.cell 3; have y4 := rB.cell 4; have y5 := rB.cell 5; have y6 := rB.cell 6; have y7 := rB.cell 7; have y8 := rB.cell 8; have y9 := rB.cell 9
        simp only [List.getElem?_cons_zero, List.getElem?_cons_succ] at y0 y1 y2 y3 y4 y5 y6 y7 y8 y9
        clear hx1 hx2 hx3 hx4 hx5 hx6 hx7 hx8 hx9 hx0 hkl hf hcc hcc' hgv HTBk hB bU hU rB hat ht0 hbf hq
        go_upto_region 8 with fail
        rw [← HU.out]
        clear c0 c1 c2 c3 c4 c5 c6 c7 c8 c9
        cases gv
        · have EQ := HQ.out.symm.trans (HYES.out (HBG.out rfl))
          subst EQ
          go_wp2_with fail
          go_ret2
          exact ⟨rfl, HB1.out.trans (BU.out.mono hz1)⟩
        · have hbr := HBR.out rfl
          have hx1 := HGO.out rfl
          by_cases hle : x0 ≤ bf
          · have dl : decide (x0 ≤ bf) = true := decide_eq_true hle
            rw [dl] at hbr
            have EQ := HQ.out.symm.trans (HYES.out hbr)
            subst EQ
            clear hbr hx1
            go_wp2_with fail
            go_ret2
            exact ⟨rfl, HB1.out.trans (BU.out.mono hz1)⟩
          · have dl : decide (x0 ≤ bf) = false := decide_eq_false hle
            rw [dl] at hbr
            have EQ := hid ((HNO.out hbr).symm.trans HQ.out)
            clear hbr hx1
            go_wp2_with fail
            go_roundw
            case rel => exact ⟨k + 1, by omega, by go_num, by rw [HSU.out], EQ.out, BU.out⟩
            case measure => simp [intOf]; omega
      · obtain rfl : k = n := by omega
        rw [ffGo_end] at hq
        subst hq
        go_wp2_with fail
        go_ret2
        exact ⟨rfl, HB1.out.trans (hB.mono hz1)⟩
theorem l07Tickets_any (B m cap : Nat) (zs : List Int) (hm : m = zs.length) (a : Option Addr) (n cap' : Nat) (w : World) (hS : Stk w B zs) :
    Calls Try.prog 19 #[.slice (some ⟨B, 0, none⟩) m cap, .slice a n cap'] w fun e w' => e = .returned (.int .i64 (if okL zs then (if n ≤ 60 then 0 else 3) else 1)) ∧ w = w' := by
  have HV := hid (l01Ok_any B m cap zs w hS hm)
  cases hv : okL zs with
  | false =>
    rw [hv] at HV
    clear hv hS hm
    go_enter Try.func19, Try.ntmps19
    go_wp2_with fail
    refine HV.out.mono ?_
    rintro e w1 ⟨rfl, rfl⟩
    go_wp2_with fail
    go_ret
    exact ⟨rfl, rfl⟩
  | true =>
    rw [hv] at HV
    simp only [if_true]
    by_cases h60 : n ≤ 60
    · rw [if_pos h60]
      have h61 : ¬ (60 : Int) < (n : Int) := by omega
      clear hv hS hm
      go_enter Try.func19, Try.ntmps19
      go_wp2_with fail
      refine HV.out.mono ?_
      rintro e w1 ⟨rfl, rfl⟩
      go_wp2_with fail
      go_ret
      exact ⟨rfl, rfl⟩
    · rw [if_neg h60]
      have h61 : (60 : Int) < (n : Int) := by omega
      clear hv hS hm
      go_enter Try.func19, Try.ntmps19
      go_wp2_with fail
      refine HV.out.mono ?_
      rintro e w1 ⟨rfl, rfl⟩
      go_wp2_with fail
      go_ret
      exact ⟨rfl, rfl⟩
set_option maxRecDepth 100000 in
set_option maxHeartbeats 4000000 in
theorem specFirstForged_any (B m cap : Nat) (zs : List Int) (hm : m = zs.length) (b n cap' : Nat) (ts : List (Nat → Int)) (hn : n = ts.length) (w : World) (hS : Stk w B zs) (hT : Tst w b ts) (hb : ∀ j, j < ts.length → tkB (ts[j]?.getD (fun _ => 0))) :
    Calls Try.prog 6 #[.slice (some ⟨B, 0, none⟩) m cap, .slice (some ⟨b, 0, none⟩) n cap'] w fun e w' => e = .returned (.tuple #[.int .i64 (ffR zs ts).1, .int .i64 (ffR zs ts).2]) ∧ Below w.heap.size w w' := by
  have hl := hT.2.2
  rw [← hn] at hl
  have hbl := hT.1
  have hC := hid hT.2.1
  have HV := hid (l07Tickets_any B m cap zs hm (some ⟨b, 0, none⟩) n cap' w hS)
  have HN := hid hn
  have HTB := hid hb
  have HSS := hid hS
  have HMM := hid hm
  have E1 := hid (fun h => ffR_no (zs := zs) (ts := ts) h)
  have E2 := hid (fun h k => ffR_limit (zs := zs) (ts := ts) h k)
  have E3 := hid (fun h k => ffR_go (zs := zs) (ts := ts) h k)
  obtain ⟨Q, hQ⟩ : ∃ Q, ffR zs ts = Q := ⟨_, rfl⟩
  rw [hQ] at E1 E2 E3 ⊢
  clear hS hT hn hm hb hQ
  cases hv : okL zs with
  | false =>
    have E := E1.out hv
    subst E
    rw [hv] at HV
    simp only [Bool.false_eq_true, if_false] at HV
    clear hv
    go_enter Try.func6, Try.ntmps6
    go_wp2_with fail
    refine HV.out.mono ?_
    rintro e w1 ⟨rfl, rfl⟩
    go_wp2_with fail
    go_ret2
    exact ⟨rfl, Below.refl _ _⟩
  | true =>
    rw [hv] at HV
    simp only [if_true] at HV
    by_cases h60 : n ≤ 60
    · rw [if_pos h60] at HV
      have E := E3.out hv (by rw [← HN.out]; exact h60)
      rw [← HN.out] at E
      have HE := hid (show ffGo (badT zs ts) (n - 0) 0 = Q from E.symm)
      clear hv E
      go_enter Try.func6, Try.ntmps6
      go_wp2_with fail
      refine HV.out.mono ?_
      rintro e w1 ⟨rfl, rfl⟩
      go_wp2_with fail
      go_loopw [7] (fun i wr => ∃ k : Nat, k ≤ n ∧ i = .int .i64 k ∧ ffGo (badT zs ts) (n - k) k = Q ∧ Below w.heap.size w wr) (fun i _ => n - (intOf i).toNat)
      case atStart => exact ⟨0, Nat.zero_le _, rfl, HE.out, Below.refl _ _⟩
      case round =>
        obtain ⟨k, hk, rfl, hq, hB⟩ := hrel
        have HQ := hid hq
        by_cases hlt : k < n
        · have hlt' : (k : Int) < (n : Int) := by omega
          have hk0 : (0 : Int) ≤ (k : Int) := by omega
          have hzr := hB.size
          have HTBk := HTB.out k (by rw [← HN.out]; exact hlt)
          have hcc := hC.out k (by rw [← HN.out]; exact hlt)
          have HYES := hid (fun h => ffGo_yes (b := badT zs ts) hlt h)
          have HNO := hid (fun h => ffGo_no (b := badT zs ts) hlt h)
          have HBG := hid (fun h => badT_gen (zs := zs) (ts := ts) (k := k) h)
          have HBR := hid (fun h => badT_rest (zs := zs) (ts := ts) (k := k) h)
          obtain ⟨f, hf⟩ : ∃ f, ts[k]?.getD (fun _ => 0) = f := ⟨_, rfl⟩
          have hcc' : ∀ i, i < 10 → w.cell? ⟨b, k * 10 + i, none⟩ = some (tkv i (f i)) := fun i hi => by rw [hcc i hi, tk, hf]
          have ht0 : tk ts k 0 = f 0 := by rw [tk, hf]
          have HB0 := hid (fun (h : k = 0) => show bfT ts k = 0 by rw [h]; rfl)
          rw [hf] at HTBk HBG HBR
          rw [ht0] at HBR
          have HGO := hid (genF_out (zs := zs) (f := f))
          have hbw : b < wr.heap.size := Nat.lt_of_lt_of_le hbl hzr
          have HCA := hid (fun (w' : World) (h : Below wr.heap.size wr w') (i : Nat) (hi : i < 10) => (h.cell (p := ⟨b, k * 10 + i, none⟩) hbw).trans ((hB.cell (p := ⟨b, k * 10 + i, none⟩) hbl).trans (hcc' i hi)))
          have HGA := hid (fun (w' : World) (h : Below wr.heap.size wr w') => l07GenuineAt_any b (k * 10) B m cap zs (f 0) (f 1) (f 2) (f 3) (f 4) (f 5) (f 6) (f 7) (f 8) (f 9) w' (HSS.out.below (hB.trans (h.mono hzr)) HSS.out.1) HMM.out HTBk.1 HTBk.2.1 (fun w'' hh => And.intro (HCA.out _ (h.trans (hh.mono h.size)) 0 (by omega)) (And.intro (HCA.out _ (h.trans (hh.mono h.size)) 1 (by omega)) (And.intro (HCA.out _ (h.trans (hh.mono h.size)) 2 (by omega)) (And.intro (HCA.out _ (h.trans (hh.mono h.size)) 3 (by omega)) (And.intro (HCA.out _ (h.trans (hh.mono h.size)) 4 (by omega)) (And.intro (HCA.out _ (h.trans (hh.mono h.size)) 5 (by omega)) (And.intro (HCA.out _ (h.trans (hh.mono h.size)) 6 (by omega)) (And.intro (HCA.out _ (h.trans (hh.mono h.size)) 7 (by omega)) (And.intro (HCA.out _ (h.trans (hh.mono h.size)) 8 (by omega)) (HCA.out _ (h.trans (hh.mono h.size)) 9 (by omega))))))))))))
          have hgv : gen zs [f 1, f 2, f 3, f 4, f 5, f 6, f 7, f 8] (f 0) (f 9) = genF zs f := rfl
          rw [hgv] at HGA
          obtain ⟨gv, hgv2⟩ : ∃ z, genF zs f = z := ⟨_, rfl⟩
          rw [hgv2] at HGA HBG HBR HGO
          have HC0 := hid (fun (w' : World) (h : Below wr.heap.size wr w') => show w'.cell? ⟨b, k * 10, none⟩ = some (.int .i64 (f 0)) from HCA.out w' h 0 (by omega))
          have HSU := hid (show bfT ts (k + 1) = f 0 by rw [bfT_succ, ht0])
          obtain ⟨x0, hx0⟩ : ∃ x, f 0 = x := ⟨_, rfl⟩
          rw [hx0] at HBR HGO HC0 HSU
          have HBX := hid hB
          clear hgv hgv2 hcc hcc' hf ht0 hx0 HTBk hq
          cases gv
          · have EQ := HQ.out.symm.trans (HYES.out (HBG.out rfl))
            subst EQ
            have KEEP := hid (fun (w' : World) (h : Below wr.heap.size wr w') => show (fun w' : World => Below wr.heap.size wr w' ∧ w'.cell? ⟨b, k * 10, none⟩ = some (.int .i64 x0)) w' from ⟨h, HC0.out w' h⟩)
            have HG := hid (fun (w' : World) (h : (fun w' : World => Below wr.heap.size wr w' ∧ w'.cell? ⟨b, k * 10, none⟩ = some (.int .i64 x0)) w') => (HGA.out w' h.1).mono fun e w'' ⟨he, hB⟩ => And.intro he (KEEP.out _ (h.1.trans (hB.mono h.1.size))))
            have HS0 := hid (KEEP.out _ (Below.refl _ _).drew)
            go_wp2_with fail
            refine wp_region_held (S := (fun w' : World => Below wr.heap.size wr w' ∧ w'.cell? ⟨b, k * 10, none⟩ = some (.int .i64 x0))) (by kernel_rfl) ?_
            change wpAnyH _ _ _ _ _ _ _ _ (World.drew _)
            have t0 : ((fun w' : World => Below wr.heap.size wr w' ∧ w'.cell? ⟨b, k * 10, none⟩ = some (.int .i64 x0))) _ := HS0.out
            refine wpAnyH_takeD (some 20) (i := 0) (v := ?_) rfl rfl (by kernel_rfl) (by kernel_rfl) (by kernel_rfl) (fun _ _ _ h => h) (.inl ⟨by kernel_rfl, ?_⟩) t0 ?_
            rotate_left
            · intro w' hw'; obtain ⟨hw1, hw2⟩ := hw'; go_simp; try with_reducible rfl
            try simp only [Act.put, List.setIfInBounds_toArray, List.set_cons_zero, List.set_cons_succ]
            refine wpAnyH_takeD (some 21) (i := 1) (v := ?_) rfl rfl (by kernel_rfl) (by kernel_rfl) (by kernel_rfl) (fun _ _ _ h => h) (.inl ⟨by kernel_rfl, ?_⟩) t0 ?_
            rotate_left
            · intro w' hw'; obtain ⟨hw1, hw2⟩ := hw'; go_simp; try with_reducible rfl
            try simp only [Act.put, List.setIfInBounds_toArray, List.set_cons_zero, List.set_cons_succ]
            refine wpAnyH_takeD (some 22) (i := 2) (v := ?_) rfl rfl (by kernel_rfl) (by kernel_rfl) (by kernel_rfl) (fun _ _ _ h => h) (.inl ⟨by kernel_rfl, ?_⟩) t0 ?_
            rotate_left
            · intro w' hw'; obtain ⟨hw1, hw2⟩ := hw'; go_simp; try with_reducible rfl
            try simp only [Act.put, List.setIfInBounds_toArray, List.set_cons_zero, List.set_cons_succ]
            refine wpAnyH_takeD (some 23) (i := 3) (v := ?_) rfl rfl (by kernel_rfl) (by kernel_rfl) (by kernel_rfl) (fun _ _ _ h => h) (.inl ⟨by kernel_rfl, ?_⟩) t0 ?_
            rotate_left
            · intro w' hw'; obtain ⟨hw1, hw2⟩ := hw'; go_simp; try with_reducible rfl
            try simp only [Act.put, List.setIfInBounds_toArray, List.set_cons_zero, List.set_cons_succ]
            refine wpAnyH_all (rs := [4]) (by kernel_rfl) (by simp) ?_
            intro i hi; simp only [List.mem_singleton] at hi; subst hi
            refine wpOp_step rfl (fun K hK => ?_)
            go_simp
            with_reducible refine (HG.out _ t0).mono ?_
            rintro e vt1 ⟨rfl, hvt1⟩
            have t1 := hvt1
            refine hK _ _ ⟨t1, ?_⟩
            try simp only [Act.put, List.setIfInBounds_toArray, List.set_cons_zero, List.set_cons_succ]
            refine wpAnyH_takeD (some 25) (i := 5) (v := ?_) rfl rfl (by kernel_rfl) (by kernel_rfl) (by kernel_rfl) (fun _ _ _ h => h) (.inl ⟨by kernel_rfl, ?_⟩) t1 ?_
            rotate_left
            · intro w' hw'; obtain ⟨hw1, hw2⟩ := hw'; go_simp; try with_reducible rfl
            try simp only [Act.put, List.setIfInBounds_toArray, List.set_cons_zero, List.set_cons_succ]
            refine wpAnyH_takeD (some 26) (i := 6) (v := ?_) rfl rfl (by kernel_rfl) (by kernel_rfl) (by kernel_rfl) (fun _ _ _ h => h) (.inl ⟨by kernel_rfl, ?_⟩) t1 ?_
            rotate_left
            · intro w' hw'; obtain ⟨hw1, hw2⟩ := hw'; go_simp; try with_reducible rfl
            try simp only [Act.put, List.setIfInBounds_toArray, List.set_cons_zero, List.set_cons_succ]
            refine wpAnyH_takeD (some 27) (i := 7) (v := undef) rfl rfl (by kernel_rfl) (by kernel_rfl) (by kernel_rfl) (fun _ _ _ h => h) (.inr ⟨by kernel_rfl, rfl⟩) t1 ?_
            try simp only [Act.put, List.setIfInBounds_toArray, List.set_cons_zero, List.set_cons_succ]
            refine wpAnyH_takeD (some 28) (i := 8) (v := undef) rfl rfl (by kernel_rfl) (by kernel_rfl) (by kernel_rfl) (fun _ _ _ h => h) (.inr ⟨by kernel_rfl, rfl⟩) t1 ?_
            try simp only [Act.put, List.setIfInBounds_toArray, List.set_cons_zero, List.set_cons_succ]
            refine wpAnyH_takeD (some 29) (i := 9) (v := undef) rfl rfl (by kernel_rfl) (by kernel_rfl) (by kernel_rfl) (fun _ _ _ h => h) (.inr ⟨by kernel_rfl, rfl⟩) t1 ?_
            try simp only [Act.put, List.setIfInBounds_toArray, List.set_cons_zero, List.set_cons_succ]
            refine wpAnyH_takeD (some 30) (i := 10) (v := undef) rfl rfl (by kernel_rfl) (by kernel_rfl) (by kernel_rfl) (fun _ _ _ h => h) (.inr ⟨by kernel_rfl, rfl⟩) t1 ?_
            try simp only [Act.put, List.setIfInBounds_toArray, List.set_cons_zero, List.set_cons_succ]
            refine wpAnyH_takeD (some 31) (i := 11) (v := undef) rfl rfl (by kernel_rfl) (by kernel_rfl) (by kernel_rfl) (fun _ _ _ h => h) (.inr ⟨by kernel_rfl, rfl⟩) t1 ?_
            try simp only [Act.put, List.setIfInBounds_toArray, List.set_cons_zero, List.set_cons_succ]
            refine wpAnyH_takeD (some 32) (i := 12) (v := undef) rfl rfl (by kernel_rfl) (by kernel_rfl) (by kernel_rfl) (fun _ _ _ h => h) (.inr ⟨by kernel_rfl, rfl⟩) t1 ?_
            try simp only [Act.put, List.setIfInBounds_toArray, List.set_cons_zero, List.set_cons_succ]
            refine wpAnyH_takeD (some 33) (i := 13) (v := undef) rfl rfl (by kernel_rfl) (by kernel_rfl) (by kernel_rfl) (fun _ _ _ h => h) (.inr ⟨by kernel_rfl, rfl⟩) t1 ?_
            try simp only [Act.put, List.setIfInBounds_toArray, List.set_cons_zero, List.set_cons_succ]
            refine wpAnyH_takeD (some 34) (i := 14) (v := undef) rfl rfl (by kernel_rfl) (by kernel_rfl) (by kernel_rfl) (fun _ _ _ h => h) (.inr ⟨by kernel_rfl, rfl⟩) t1 ?_
            try simp only [Act.put, List.setIfInBounds_toArray, List.set_cons_zero, List.set_cons_succ]
            refine wpAnyH_takeD (some 35) (i := 15) (v := undef) rfl rfl (by kernel_rfl) (by kernel_rfl) (by kernel_rfl) (fun _ _ _ h => h) (.inr ⟨by kernel_rfl, rfl⟩) t1 ?_
            try simp only [Act.put, List.setIfInBounds_toArray, List.set_cons_zero, List.set_cons_succ]
            refine wpAnyH_takeD (some 36) (i := 16) (v := undef) rfl rfl (by kernel_rfl) (by kernel_rfl) (by kernel_rfl) (fun _ _ _ h => h) (.inr ⟨by kernel_rfl, rfl⟩) t1 ?_
            try simp only [Act.put, List.setIfInBounds_toArray, List.set_cons_zero, List.set_cons_succ]
            refine wpAnyH_takeD (some 37) (i := 17) (v := undef) rfl rfl (by kernel_rfl) (by kernel_rfl) (by kernel_rfl) (fun _ _ _ h => h) (.inr ⟨by kernel_rfl, rfl⟩) t1 ?_
            try simp only [Act.put, List.setIfInBounds_toArray, List.set_cons_zero, List.set_cons_succ]
            refine wpAnyH_takeD (some 38) (i := 18) (v := undef) rfl rfl (by kernel_rfl) (by kernel_rfl) (by kernel_rfl) (fun _ _ _ h => h) (.inr ⟨by kernel_rfl, rfl⟩) t1 ?_
            try simp only [Act.put, List.setIfInBounds_toArray, List.set_cons_zero, List.set_cons_succ]
            refine wpAnyH_takeD (some 39) (i := 19) (v := undef) rfl rfl (by kernel_rfl) (by kernel_rfl) (by kernel_rfl) (fun _ _ _ h => h) (.inr ⟨by kernel_rfl, rfl⟩) t1 ?_
            try simp only [Act.put, List.setIfInBounds_toArray, List.set_cons_zero, List.set_cons_succ]
            refine wpAnyH_takeD (some 40) (i := 20) (v := undef) rfl rfl (by kernel_rfl) (by kernel_rfl) (by kernel_rfl) (fun _ _ _ h => h) (.inr ⟨by kernel_rfl, rfl⟩) t1 ?_
            try simp only [Act.put, List.setIfInBounds_toArray, List.set_cons_zero, List.set_cons_succ]
            refine wpAnyH_takeD (some 41) (i := 21) (v := undef) rfl rfl (by kernel_rfl) (by kernel_rfl) (by kernel_rfl) (fun _ _ _ h => h) (.inr ⟨by kernel_rfl, rfl⟩) t1 ?_
            try simp only [Act.put, List.setIfInBounds_toArray, List.set_cons_zero, List.set_cons_succ]
            refine wpAnyH_takeD (some 42) (i := 22) (v := undef) rfl rfl (by kernel_rfl) (by kernel_rfl) (by kernel_rfl) (fun _ _ _ h => h) (.inr ⟨by kernel_rfl, rfl⟩) t1 ?_
            try simp only [Act.put, List.setIfInBounds_toArray, List.set_cons_zero, List.set_cons_succ]
            refine wpAnyH_takeD (some 43) (i := 23) (v := ?_) rfl rfl (by kernel_rfl) (by kernel_rfl) (by kernel_rfl) (fun _ _ _ h => h) (.inl ⟨by kernel_rfl, ?_⟩) t1 ?_
            rotate_left
            · intro w' hw'; obtain ⟨hw1, hw2⟩ := hw'; go_simp; try with_reducible rfl
            try simp only [Act.put, List.setIfInBounds_toArray, List.set_cons_zero, List.set_cons_succ]
            refine wpAnyH_done (by kernel_rfl) ?_ _
            go_wp2_with fail
            go_ret2
            exact ⟨rfl, HBX.out.trans (t1.1.mono hzr)⟩
          · have hbr := HBR.out rfl
            have hx1 := HGO.out rfl
            by_cases hkz : k = 0
            · rw [HB0.out hkz] at hbr
              have dl : decide (x0 ≤ 0) = false := decide_eq_false (by omega)
              rw [dl] at hbr
              have EQ := hid ((HNO.out hbr).symm.trans HQ.out)
              have KEEP := hid (fun (w' : World) (h : Below wr.heap.size wr w') => show (fun w' : World => Below wr.heap.size wr w' ∧ w'.cell? ⟨b, k * 10, none⟩ = some (.int .i64 x0)) w' from ⟨h, HC0.out w' h⟩)
              have HG := hid (fun (w' : World) (h : (fun w' : World => Below wr.heap.size wr w' ∧ w'.cell? ⟨b, k * 10, none⟩ = some (.int .i64 x0)) w') => (HGA.out w' h.1).mono fun e w'' ⟨he, hB⟩ => And.intro he (KEEP.out _ (h.1.trans (hB.mono h.1.size))))
              have HS0 := hid (KEEP.out _ (Below.refl _ _).drew)
              have hkz1 : ¬ (0 : Int) < (k : Int) := by omega
              have hkz2 : decide ((0 : Int) < (k : Int)) = false := decide_eq_false (by omega)
              have hkz3 : decide (0 < k) = false := decide_eq_false (by omega)
              have hkz4 : ¬ 0 < k := by omega
              clear hbr hx1 hkz
              go_wp2_with fail
              refine wp_region_held (S := (fun w' : World => Below wr.heap.size wr w' ∧ w'.cell? ⟨b, k * 10, none⟩ = some (.int .i64 x0))) (by kernel_rfl) ?_
              change wpAnyH _ _ _ _ _ _ _ _ (World.drew _)
              have t0 : ((fun w' : World => Below wr.heap.size wr w' ∧ w'.cell? ⟨b, k * 10, none⟩ = some (.int .i64 x0))) _ := HS0.out
              refine wpAnyH_takeD (some 20) (i := 0) (v := ?_) rfl rfl (by kernel_rfl) (by kernel_rfl) (by kernel_rfl) (fun _ _ _ h => h) (.inl ⟨by kernel_rfl, ?_⟩) t0 ?_
              rotate_left
              · intro w' hw'; obtain ⟨hw1, hw2⟩ := hw'; go_simp; try with_reducible rfl
              try simp only [Act.put, List.setIfInBounds_toArray, List.set_cons_zero, List.set_cons_succ]
              refine wpAnyH_takeD (some 21) (i := 1) (v := ?_) rfl rfl (by kernel_rfl) (by kernel_rfl) (by kernel_rfl) (fun _ _ _ h => h) (.inl ⟨by kernel_rfl, ?_⟩) t0 ?_
              rotate_left
              · intro w' hw'; obtain ⟨hw1, hw2⟩ := hw'; go_simp; try with_reducible rfl
              try simp only [Act.put, List.setIfInBounds_toArray, List.set_cons_zero, List.set_cons_succ]
              refine wpAnyH_takeD (some 22) (i := 2) (v := ?_) rfl rfl (by kernel_rfl) (by kernel_rfl) (by kernel_rfl) (fun _ _ _ h => h) (.inl ⟨by kernel_rfl, ?_⟩) t0 ?_
              rotate_left
              · intro w' hw'; obtain ⟨hw1, hw2⟩ := hw'; go_simp; try with_reducible rfl
              try simp only [Act.put, List.setIfInBounds_toArray, List.set_cons_zero, List.set_cons_succ]
              refine wpAnyH_takeD (some 23) (i := 3) (v := ?_) rfl rfl (by kernel_rfl) (by kernel_rfl) (by kernel_rfl) (fun _ _ _ h => h) (.inl ⟨by kernel_rfl, ?_⟩) t0 ?_
              rotate_left
              · intro w' hw'; obtain ⟨hw1, hw2⟩ := hw'; go_simp; try with_reducible rfl
              try simp only [Act.put, List.setIfInBounds_toArray, List.set_cons_zero, List.set_cons_succ]
              refine wpAnyH_all (rs := [4]) (by kernel_rfl) (by simp) ?_
              intro i hi; simp only [List.mem_singleton] at hi; subst hi
              refine wpOp_step rfl (fun K hK => ?_)
              go_simp
              with_reducible refine (HG.out _ t0).mono ?_
              rintro e vt1 ⟨rfl, hvt1⟩
              have t1 := hvt1
              refine hK _ _ ⟨t1, ?_⟩
              try simp only [Act.put, List.setIfInBounds_toArray, List.set_cons_zero, List.set_cons_succ]
              refine wpAnyH_takeD (some 25) (i := 5) (v := ?_) rfl rfl (by kernel_rfl) (by kernel_rfl) (by kernel_rfl) (fun _ _ _ h => h) (.inl ⟨by kernel_rfl, ?_⟩) t1 ?_
              rotate_left
              · intro w' hw'; obtain ⟨hw1, hw2⟩ := hw'; go_simp; try with_reducible rfl
              try simp only [Act.put, List.setIfInBounds_toArray, List.set_cons_zero, List.set_cons_succ]
              refine wpAnyH_takeD (some 26) (i := 6) (v := ?_) rfl rfl (by kernel_rfl) (by kernel_rfl) (by kernel_rfl) (fun _ _ _ h => h) (.inl ⟨by kernel_rfl, ?_⟩) t1 ?_
              rotate_left
              · intro w' hw'; obtain ⟨hw1, hw2⟩ := hw'; go_simp; try with_reducible rfl
              try simp only [Act.put, List.setIfInBounds_toArray, List.set_cons_zero, List.set_cons_succ]
              refine wpAnyH_takeD (some 27) (i := 7) (v := ?_) rfl rfl (by kernel_rfl) (by kernel_rfl) (by kernel_rfl) (fun _ _ _ h => h) (.inl ⟨by kernel_rfl, ?_⟩) t1 ?_
              rotate_left
              · intro w' hw'; obtain ⟨hw1, hw2⟩ := hw'; go_simp; try with_reducible rfl
              try simp only [Act.put, List.setIfInBounds_toArray, List.set_cons_zero, List.set_cons_succ]
              refine wpAnyH_takeD (some 28) (i := 8) (v := ?_) rfl rfl (by kernel_rfl) (by kernel_rfl) (by kernel_rfl) (fun _ _ _ h => h) (.inl ⟨by kernel_rfl, ?_⟩) t1 ?_
              rotate_left
              · intro w' hw'; obtain ⟨hw1, hw2⟩ := hw'; go_simp; try with_reducible rfl
              try simp only [Act.put, List.setIfInBounds_toArray, List.set_cons_zero, List.set_cons_succ]
              refine wpAnyH_takeD (some 29) (i := 9) (v := ?_) rfl rfl (by kernel_rfl) (by kernel_rfl) (by kernel_rfl) (fun _ _ _ h => h) (.inl ⟨by kernel_rfl, ?_⟩) t1 ?_
              rotate_left
              · intro w' hw'; obtain ⟨hw1, hw2⟩ := hw'; go_simp; try with_reducible rfl
              try simp only [Act.put, List.setIfInBounds_toArray, List.set_cons_zero, List.set_cons_succ]
              refine wpAnyH_takeD (some 30) (i := 10) (v := undef) rfl rfl (by kernel_rfl) (by kernel_rfl) (by kernel_rfl) (fun _ _ _ h => h) (.inr ⟨by kernel_rfl, rfl⟩) t1 ?_
              try simp only [Act.put, List.setIfInBounds_toArray, List.set_cons_zero, List.set_cons_succ]
              refine wpAnyH_takeD (some 31) (i := 11) (v := undef) rfl rfl (by kernel_rfl) (by kernel_rfl) (by kernel_rfl) (fun _ _ _ h => h) (.inr ⟨by kernel_rfl, rfl⟩) t1 ?_
              try simp only [Act.put, List.setIfInBounds_toArray, List.set_cons_zero, List.set_cons_succ]
              refine wpAnyH_takeD (some 32) (i := 12) (v := undef) rfl rfl (by kernel_rfl) (by kernel_rfl) (by kernel_rfl) (fun _ _ _ h => h) (.inr ⟨by kernel_rfl, rfl⟩) t1 ?_
              try simp only [Act.put, List.setIfInBounds_toArray, List.set_cons_zero, List.set_cons_succ]
              refine wpAnyH_takeD (some 33) (i := 13) (v := undef) rfl rfl (by kernel_rfl) (by kernel_rfl) (by kernel_rfl) (fun _ _ _ h => h) (.inr ⟨by kernel_rfl, rfl⟩) t1 ?_
              try simp only [Act.put, List.setIfInBounds_toArray, List.set_cons_zero, List.set_cons_succ]
              refine wpAnyH_takeD (some 34) (i := 14) (v := undef) rfl rfl (by kernel_rfl) (by kernel_rfl) (by kernel_rfl) (fun _ _ _ h => h) (.inr ⟨by kernel_rfl, rfl⟩) t1 ?_
              try simp only [Act.put, List.setIfInBounds_toArray, List.set_cons_zero, List.set_cons_succ]
              refine wpAnyH_takeD (some 35) (i := 15) (v := undef) rfl rfl (by kernel_rfl) (by kernel_rfl) (by kernel_rfl) (fun _ _ _ h => h) (.inr ⟨by kernel_rfl, rfl⟩) t1 ?_
              try simp only [Act.put, List.setIfInBounds_toArray, List.set_cons_zero, List.set_cons_succ]
              refine wpAnyH_takeD (some 36) (i := 16) (v := undef) rfl rfl (by kernel_rfl) (by kernel_rfl) (by kernel_rfl) (fun _ _ _ h => h) (.inr ⟨by kernel_rfl, rfl⟩) t1 ?_
              try simp only [Act.put, List.setIfInBounds_toArray, List.set_cons_zero, List.set_cons_succ]
              refine wpAnyH_takeD (some 37) (i := 17) (v := undef) rfl rfl (by kernel_rfl) (by kernel_rfl) (by kernel_rfl) (fun _ _ _ h => h) (.inr ⟨by kernel_rfl, rfl⟩) t1 ?_
              try simp only [Act.put, List.setIfInBounds_toArray, List.set_cons_zero, List.set_cons_succ]
              refine wpAnyH_takeD (some 38) (i := 18) (v := undef) rfl rfl (by kernel_rfl) (by kernel_rfl) (by kernel_rfl) (fun _ _ _ h => h) (.inr ⟨by kernel_rfl, rfl⟩) t1 ?_
              try simp only [Act.put, List.setIfInBounds_toArray, List.set_cons_zero, List.set_cons_succ]
              refine wpAnyH_takeD (some 39) (i := 19) (v := undef) rfl rfl (by kernel_rfl) (by kernel_rfl) (by kernel_rfl) (fun _ _ _ h => h) (.inr ⟨by kernel_rfl, rfl⟩) t1 ?_
              try simp only [Act.put, List.setIfInBounds_toArray, List.set_cons_zero, List.set_cons_succ]
              refine wpAnyH_takeD (some 40) (i := 20) (v := undef) rfl rfl (by kernel_rfl) (by kernel_rfl) (by kernel_rfl) (fun _ _ _ h => h) (.inr ⟨by kernel_rfl, rfl⟩) t1 ?_
              try simp only [Act.put, List.setIfInBounds_toArray, List.set_cons_zero, List.set_cons_succ]
              refine wpAnyH_takeD (some 41) (i := 21) (v := undef) rfl rfl (by kernel_rfl) (by kernel_rfl) (by kernel_rfl) (fun _ _ _ h => h) (.inr ⟨by kernel_rfl, rfl⟩) t1 ?_
              try simp only [Act.put, List.setIfInBounds_toArray, List.set_cons_zero, List.set_cons_succ]
              refine wpAnyH_takeD (some 42) (i := 22) (v := ?_) rfl rfl (by kernel_rfl) (by kernel_rfl) (by kernel_rfl) (fun _ _ _ h => h) (.inl ⟨by kernel_rfl, ?_⟩) t1 ?_
              rotate_left
              · intro w' hw'; obtain ⟨hw1, hw2⟩ := hw'; go_simp; try with_reducible rfl
              try simp only [Act.put, List.setIfInBounds_toArray, List.set_cons_zero, List.set_cons_succ]
              refine wpAnyH_takeD (some 43) (i := 23) (v := ?_) rfl rfl (by kernel_rfl) (by kernel_rfl) (by kernel_rfl) (fun _ _ _ h => h) (.inl ⟨by kernel_rfl, ?_⟩) t1 ?_
              rotate_left
              · intro w' hw'; obtain ⟨hw1, hw2⟩ := hw'; go_simp; try with_reducible rfl
              try simp only [Act.put, List.setIfInBounds_toArray, List.set_cons_zero, List.set_cons_succ]
              refine wpAnyH_done (by kernel_rfl) ?_ _
              go_wp2_with fail
              go_roundw
              case rel => exact ⟨k + 1, by omega, by go_num, EQ.out, HBX.out.trans (t1.1.mono hzr)⟩
              case measure => simp [intOf]; omega
            · obtain ⟨p, hp⟩ : ∃ p, k = p + 1 := ⟨k - 1, by omega⟩
              have hpn : p < n := by omega
              have hbp : bfT ts k = tk ts p 0 := by rw [hp, bfT_succ]
              rw [hbp] at hbr
              have HP0 := hid (fun (w' : World) (h : Below wr.heap.size wr w') => show w'.cell? ⟨b, p * 10, none⟩ = some (.int .i64 (tk ts p 0)) from (h.cell (p := ⟨b, p * 10, none⟩) hbw).trans ((HBX.out.cell (p := ⟨b, p * 10, none⟩) hbl).trans (hC.out p (by rw [← HN.out]; exact hpn) 0 (by omega))))
              obtain ⟨y0, hy0⟩ : ∃ y, tk ts p 0 = y := ⟨_, rfl⟩
              rw [hy0] at hbr HP0
              have KEEP := hid (fun (w' : World) (h : Below wr.heap.size wr w') => show (fun w' : World => Below wr.heap.size wr w' ∧ w'.cell? ⟨b, k * 10, none⟩ = some (.int .i64 x0) ∧ w'.cell? ⟨b, p * 10, none⟩ = some (.int .i64 y0)) w' from ⟨h, HC0.out w' h, HP0.out w' h⟩)
              have HG := hid (fun (w' : World) (h : (fun w' : World => Below wr.heap.size wr w' ∧ w'.cell? ⟨b, k * 10, none⟩ = some (.int .i64 x0) ∧ w'.cell? ⟨b, p * 10, none⟩ = some (.int .i64 y0)) w') => (HGA.out w' h.1).mono fun e w'' ⟨he, hB⟩ => And.intro he (KEEP.out _ (h.1.trans (hB.mono h.1.size))))
              have HS0 := hid (KEEP.out _ (Below.refl _ _).drew)
              have ec : (k : Int) - 1 = (p : Int) := by omega
              have tp : IntKind.i64.wrap (p : Int) = (p : Int) := IntWalk.i64_in _ (by omega)
              have hp0 : (0 : Int) ≤ (p : Int) := by omega
              have hpn' : (p : Int) < (n : Int) := by omega
              have hkz1 : (0 : Int) < (k : Int) := by omega
              have hkz2 : decide ((0 : Int) < (k : Int)) = true := decide_eq_true hkz1
              have hkz4 : 0 < k := by omega
              have hkz3 : decide (0 < k) = true := decide_eq_true hkz4
              clear hbp hy0 hx1 hkz
              have HPE := hid hp
              clear hp
              by_cases hle : x0 ≤ y0
              · have dl : decide (x0 ≤ y0) = true := decide_eq_true hle
                rw [dl] at hbr
                have EQ := HQ.out.symm.trans (HYES.out hbr)
                subst EQ
                clear hbr
                go_wp2_with fail
                refine wp_region_held (S := (fun w' : World => Below wr.heap.size wr w' ∧ w'.cell? ⟨b, k * 10, none⟩ = some (.int .i64 x0) ∧ w'.cell? ⟨b, p * 10, none⟩ = some (.int .i64 y0))) (by kernel_rfl) ?_
                change wpAnyH _ _ _ _ _ _ _ _ (World.drew _)
                have t0 : ((fun w' : World => Below wr.heap.size wr w' ∧ w'.cell? ⟨b, k * 10, none⟩ = some (.int .i64 x0) ∧ w'.cell? ⟨b, p * 10, none⟩ = some (.int .i64 y0))) _ := HS0.out
                refine wpAnyH_takeD (some 20) (i := 0) (v := ?_) rfl rfl (by kernel_rfl) (by kernel_rfl) (by kernel_rfl) (fun _ _ _ h => h) (.inl ⟨by kernel_rfl, ?_⟩) t0 ?_
                rotate_left
                · intro w' hw'; obtain ⟨hw1, hw2, hw3⟩ := hw'; go_simp; try with_reducible rfl
                try simp only [Act.put, List.setIfInBounds_toArray, List.set_cons_zero, List.set_cons_succ]
                refine wpAnyH_takeD (some 21) (i := 1) (v := ?_) rfl rfl (by kernel_rfl) (by kernel_rfl) (by kernel_rfl) (fun _ _ _ h => h) (.inl ⟨by kernel_rfl, ?_⟩) t0 ?_
                rotate_left
                · intro w' hw'; obtain ⟨hw1, hw2, hw3⟩ := hw'; go_simp; try with_reducible rfl
                try simp only [Act.put, List.setIfInBounds_toArray, List.set_cons_zero, List.set_cons_succ]
                refine wpAnyH_takeD (some 22) (i := 2) (v := ?_) rfl rfl (by kernel_rfl) (by kernel_rfl) (by kernel_rfl) (fun _ _ _ h => h) (.inl ⟨by kernel_rfl, ?_⟩) t0 ?_
                rotate_left
                · intro w' hw'; obtain ⟨hw1, hw2, hw3⟩ := hw'; go_simp; try with_reducible rfl
                try simp only [Act.put, List.setIfInBounds_toArray, List.set_cons_zero, List.set_cons_succ]
                refine wpAnyH_takeD (some 23) (i := 3) (v := ?_) rfl rfl (by kernel_rfl) (by kernel_rfl) (by kernel_rfl) (fun _ _ _ h => h) (.inl ⟨by kernel_rfl, ?_⟩) t0 ?_
                rotate_left
                · intro w' hw'; obtain ⟨hw1, hw2, hw3⟩ := hw'; go_simp; try with_reducible rfl
                try simp only [Act.put, List.setIfInBounds_toArray, List.set_cons_zero, List.set_cons_succ]
                refine wpAnyH_all (rs := [4]) (by kernel_rfl) (by simp) ?_
                intro i hi; simp only [List.mem_singleton] at hi; subst hi
                refine wpOp_step rfl (fun K hK => ?_)
                go_simp
                with_reducible refine (HG.out _ t0).mono ?_
                rintro e vt1 ⟨rfl, hvt1⟩
                have t1 := hvt1
                refine hK _ _ ⟨t1, ?_⟩
                try simp only [Act.put, List.setIfInBounds_toArray, List.set_cons_zero, List.set_cons_succ]
                refine wpAnyH_takeD (some 25) (i := 5) (v := ?_) rfl rfl (by kernel_rfl) (by kernel_rfl) (by kernel_rfl) (fun _ _ _ h => h) (.inl ⟨by kernel_rfl, ?_⟩) t1 ?_
                rotate_left
                · intro w' hw'; obtain ⟨hw1, hw2, hw3⟩ := hw'; go_simp; try with_reducible rfl
                try simp only [Act.put, List.setIfInBounds_toArray, List.set_cons_zero, List.set_cons_succ]
                refine wpAnyH_takeD (some 26) (i := 6) (v := ?_) rfl rfl (by kernel_rfl) (by kernel_rfl) (by kernel_rfl) (fun _ _ _ h => h) (.inl ⟨by kernel_rfl, ?_⟩) t1 ?_
                rotate_left
                · intro w' hw'; obtain ⟨hw1, hw2, hw3⟩ := hw'; go_simp; try with_reducible rfl
                try simp only [Act.put, List.setIfInBounds_toArray, List.set_cons_zero, List.set_cons_succ]
                refine wpAnyH_takeD (some 27) (i := 7) (v := ?_) rfl rfl (by kernel_rfl) (by kernel_rfl) (by kernel_rfl) (fun _ _ _ h => h) (.inl ⟨by kernel_rfl, ?_⟩) t1 ?_
                rotate_left
                · intro w' hw'; obtain ⟨hw1, hw2, hw3⟩ := hw'; go_simp; try with_reducible rfl
                try simp only [Act.put, List.setIfInBounds_toArray, List.set_cons_zero, List.set_cons_succ]
                refine wpAnyH_takeD (some 28) (i := 8) (v := ?_) rfl rfl (by kernel_rfl) (by kernel_rfl) (by kernel_rfl) (fun _ _ _ h => h) (.inl ⟨by kernel_rfl, ?_⟩) t1 ?_
                rotate_left
                · intro w' hw'; obtain ⟨hw1, hw2, hw3⟩ := hw'; go_simp; try with_reducible rfl
                try simp only [Act.put, List.setIfInBounds_toArray, List.set_cons_zero, List.set_cons_succ]
                refine wpAnyH_takeD (some 29) (i := 9) (v := ?_) rfl rfl (by kernel_rfl) (by kernel_rfl) (by kernel_rfl) (fun _ _ _ h => h) (.inl ⟨by kernel_rfl, ?_⟩) t1 ?_
                rotate_left
                · intro w' hw'; obtain ⟨hw1, hw2, hw3⟩ := hw'; go_simp; try with_reducible rfl
                try simp only [Act.put, List.setIfInBounds_toArray, List.set_cons_zero, List.set_cons_succ]
                refine wpAnyH_takeD (some 30) (i := 10) (v := ?_) rfl rfl (by kernel_rfl) (by kernel_rfl) (by kernel_rfl) (fun _ _ _ h => h) (.inl ⟨by kernel_rfl, ?_⟩) t1 ?_
                rotate_left
                · intro w' hw'; obtain ⟨hw1, hw2, hw3⟩ := hw'; go_simp; try with_reducible rfl
                try simp only [Act.put, List.setIfInBounds_toArray, List.set_cons_zero, List.set_cons_succ]
                refine wpAnyH_takeD (some 31) (i := 11) (v := ?_) rfl rfl (by kernel_rfl) (by kernel_rfl) (by kernel_rfl) (fun _ _ _ h => h) (.inl ⟨by kernel_rfl, ?_⟩) t1 ?_
                rotate_left
                · intro w' hw'; obtain ⟨hw1, hw2, hw3⟩ := hw'; go_simp; try with_reducible rfl
                try simp only [Act.put, List.setIfInBounds_toArray, List.set_cons_zero, List.set_cons_succ]
                refine wpAnyH_takeD (some 32) (i := 12) (v := ?_) rfl rfl (by kernel_rfl) (by kernel_rfl) (by kernel_rfl) (fun _ _ _ h => h) (.inl ⟨by kernel_rfl, ?_⟩) t1 ?_
                rotate_left
                · intro w' hw'; obtain ⟨hw1, hw2, hw3⟩ := hw'; go_simp; try with_reducible rfl
                try simp only [Act.put, List.setIfInBounds_toArray, List.set_cons_zero, List.set_cons_succ]
                refine wpAnyH_takeD (some 33) (i := 13) (v := ?_) rfl rfl (by kernel_rfl) (by kernel_rfl) (by kernel_rfl) (fun _ _ _ h => h) (.inl ⟨by kernel_rfl, ?_⟩) t1 ?_
                rotate_left
                · intro w' hw'; obtain ⟨hw1, hw2, hw3⟩ := hw'; go_simp; try with_reducible rfl
                try simp only [Act.put, List.setIfInBounds_toArray, List.set_cons_zero, List.set_cons_succ]
                refine wpAnyH_takeD (some 34) (i := 14) (v := ?_) rfl rfl (by kernel_rfl) (by kernel_rfl) (by kernel_rfl) (fun _ _ _ h => h) (.inl ⟨by kernel_rfl, ?_⟩) t1 ?_
                rotate_left
                · intro w' hw'; obtain ⟨hw1, hw2, hw3⟩ := hw'; go_simp; try with_reducible rfl
                try simp only [Act.put, List.setIfInBounds_toArray, List.set_cons_zero, List.set_cons_succ]
                refine wpAnyH_takeD (some 35) (i := 15) (v := ?_) rfl rfl (by kernel_rfl) (by kernel_rfl) (by kernel_rfl) (fun _ _ _ h => h) (.inl ⟨by kernel_rfl, ?_⟩) t1 ?_
                rotate_left
                · intro w' hw'; obtain ⟨hw1, hw2, hw3⟩ := hw'; go_simp; try with_reducible rfl
                try simp only [Act.put, List.setIfInBounds_toArray, List.set_cons_zero, List.set_cons_succ]
                refine wpAnyH_takeD (some 36) (i := 16) (v := ?_) rfl rfl (by kernel_rfl) (by kernel_rfl) (by kernel_rfl) (fun _ _ _ h => h) (.inl ⟨by kernel_rfl, ?_⟩) t1 ?_
                rotate_left
                · intro w' hw'; obtain ⟨hw1, hw2, hw3⟩ := hw'; go_simp; try with_reducible rfl
                try simp only [Act.put, List.setIfInBounds_toArray, List.set_cons_zero, List.set_cons_succ]
                refine wpAnyH_takeD (some 37) (i := 17) (v := ?_) rfl rfl (by kernel_rfl) (by kernel_rfl) (by kernel_rfl) (fun _ _ _ h => h) (.inl ⟨by kernel_rfl, ?_⟩) t1 ?_
                rotate_left
                · intro w' hw'; obtain ⟨hw1, hw2, hw3⟩ := hw'; go_simp; try with_reducible rfl
                try simp only [Act.put, List.setIfInBounds_toArray, List.set_cons_zero, List.set_cons_succ]
                refine wpAnyH_takeD (some 38) (i := 18) (v := ?_) rfl rfl (by kernel_rfl) (by kernel_rfl) (by kernel_rfl) (fun _ _ _ h => h) (.inl ⟨by kernel_rfl, ?_⟩) t1 ?_
                rotate_left
                · intro w' hw'; obtain ⟨hw1, hw2, hw3⟩ := hw'; go_simp; try with_reducible rfl
                try simp only [Act.put, List.setIfInBounds_toArray, List.set_cons_zero, List.set_cons_succ]
                refine wpAnyH_takeD (some 39) (i := 19) (v := ?_) rfl rfl (by kernel_rfl) (by kernel_rfl) (by kernel_rfl) (fun _ _ _ h => h) (.inl ⟨by kernel_rfl, ?_⟩) t1 ?_
                rotate_left
                · intro w' hw'; obtain ⟨hw1, hw2, hw3⟩ := hw'; go_simp; try with_reducible rfl
                try simp only [Act.put, List.setIfInBounds_toArray, List.set_cons_zero, List.set_cons_succ]
                refine wpAnyH_takeD (some 40) (i := 20) (v := ?_) rfl rfl (by kernel_rfl) (by kernel_rfl) (by kernel_rfl) (fun _ _ _ h => h) (.inl ⟨by kernel_rfl, ?_⟩) t1 ?_
                rotate_left
                · intro w' hw'; obtain ⟨hw1, hw2, hw3⟩ := hw'; go_simp; try with_reducible rfl
                try simp only [Act.put, List.setIfInBounds_toArray, List.set_cons_zero, List.set_cons_succ]
                refine wpAnyH_takeD (some 41) (i := 21) (v := ?_) rfl rfl (by kernel_rfl) (by kernel_rfl) (by kernel_rfl) (fun _ _ _ h => h) (.inl ⟨by kernel_rfl, ?_⟩) t1 ?_
                rotate_left
                · intro w' hw'; obtain ⟨hw1, hw2, hw3⟩ := hw'; go_simp; try with_reducible rfl
                try simp only [Act.put, List.setIfInBounds_toArray, List.set_cons_zero, List.set_cons_succ]
                refine wpAnyH_takeD (some 42) (i := 22) (v := ?_) rfl rfl (by kernel_rfl) (by kernel_rfl) (by kernel_rfl) (fun _ _ _ h => h) (.inl ⟨by kernel_rfl, ?_⟩) t1 ?_
                rotate_left
                · intro w' hw'; obtain ⟨hw1, hw2, hw3⟩ := hw'; go_simp; try with_reducible rfl
                try simp only [Act.put, List.setIfInBounds_toArray, List.set_cons_zero, List.set_cons_succ]
                refine wpAnyH_takeD (some 43) (i := 23) (v := ?_) rfl rfl (by kernel_rfl) (by kernel_rfl) (by kernel_rfl) (fun _ _ _ h => h) (.inl ⟨by kernel_rfl, ?_⟩) t1 ?_
                rotate_left
                · intro w' hw'; obtain ⟨hw1, hw2, hw3⟩ := hw'; go_simp; try with_reducible rfl
                try simp only [Act.put, List.setIfInBounds_toArray, List.set_cons_zero, List.set_cons_succ]
                refine wpAnyH_done (by kernel_rfl) ?_ _
                go_wp2_with fail
                go_ret2
                exact ⟨rfl, HBX.out.trans (t1.1.mono hzr)⟩
              · have dl : decide (x0 ≤ y0) = false := decide_eq_false hle
                rw [dl] at hbr
                have EQ := hid ((HNO.out hbr).symm.trans HQ.out)
                clear hbr
                go_wp2_with fail
                refine wp_region_held (S := (fun w' : World => Below wr.heap.size wr w' ∧ w'.cell? ⟨b, k * 10, none⟩ = some (.int .i64 x0) ∧ w'.cell? ⟨b, p * 10, none⟩ = some (.int .i64 y0))) (by kernel_rfl) ?_
                change wpAnyH _ _ _ _ _ _ _ _ (World.drew _)
                have t0 : ((fun w' : World => Below wr.heap.size wr w' ∧ w'.cell? ⟨b, k * 10, none⟩ = some (.int .i64 x0) ∧ w'.cell? ⟨b, p * 10, none⟩ = some (.int .i64 y0))) _ := HS0.out
                refine wpAnyH_takeD (some 20) (i := 0) (v := ?_) rfl rfl (by kernel_rfl) (by kernel_rfl) (by kernel_rfl) (fun _ _ _ h => h) (.inl ⟨by kernel_rfl, ?_⟩) t0 ?_
                rotate_left
                · intro w' hw'; obtain ⟨hw1, hw2, hw3⟩ := hw'; go_simp; try with_reducible rfl
                try simp only [Act.put, List.setIfInBounds_toArray, List.set_cons_zero, List.set_cons_succ]
                refine wpAnyH_takeD (some 21) (i := 1) (v := ?_) rfl rfl (by kernel_rfl) (by kernel_rfl) (by kernel_rfl) (fun _ _ _ h => h) (.inl ⟨by kernel_rfl, ?_⟩) t0 ?_
                rotate_left
                · intro w' hw'; obtain ⟨hw1, hw2, hw3⟩ := hw'; go_simp; try with_reducible rfl
                try simp only [Act.put, List.setIfInBounds_toArray, List.set_cons_zero, List.set_cons_succ]
                refine wpAnyH_takeD (some 22) (i := 2) (v := ?_) rfl rfl (by kernel_rfl) (by kernel_rfl) (by kernel_rfl) (fun _ _ _ h => h) (.inl ⟨by kernel_rfl, ?_⟩) t0 ?_
                rotate_left
                · intro w' hw'; obtain ⟨hw1, hw2, hw3⟩ := hw'; go_simp; try with_reducible rfl
                try simp only [Act.put, List.setIfInBounds_toArray, List.set_cons_zero, List.set_cons_succ]
                refine wpAnyH_takeD (some 23) (i := 3) (v := ?_) rfl rfl (by kernel_rfl) (by kernel_rfl) (by kernel_rfl) (fun _ _ _ h => h) (.inl ⟨by kernel_rfl, ?_⟩) t0 ?_
                rotate_left
                · intro w' hw'; obtain ⟨hw1, hw2, hw3⟩ := hw'; go_simp; try with_reducible rfl
                try simp only [Act.put, List.setIfInBounds_toArray, List.set_cons_zero, List.set_cons_succ]
                refine wpAnyH_all (rs := [4]) (by kernel_rfl) (by simp) ?_
                intro i hi; simp only [List.mem_singleton] at hi; subst hi
                refine wpOp_step rfl (fun K hK => ?_)
                go_simp
                with_reducible refine (HG.out _ t0).mono ?_
                rintro e vt1 ⟨rfl, hvt1⟩
                have t1 := hvt1
                refine hK _ _ ⟨t1, ?_⟩
                try simp only [Act.put, List.setIfInBounds_toArray, List.set_cons_zero, List.set_cons_succ]
                refine wpAnyH_takeD (some 25) (i := 5) (v := ?_) rfl rfl (by kernel_rfl) (by kernel_rfl) (by kernel_rfl) (fun _ _ _ h => h) (.inl ⟨by kernel_rfl, ?_⟩) t1 ?_
                rotate_left
                · intro w' hw'; obtain ⟨hw1, hw2, hw3⟩ := hw'; go_simp; try with_reducible rfl
                try simp only [Act.put, List.setIfInBounds_toArray, List.set_cons_zero, List.set_cons_succ]
                refine wpAnyH_takeD (some 26) (i := 6) (v := ?_) rfl rfl (by kernel_rfl) (by kernel_rfl) (by kernel_rfl) (fun _ _ _ h => h) (.inl ⟨by kernel_rfl, ?_⟩) t1 ?_
                rotate_left
                · intro w' hw'; obtain ⟨hw1, hw2, hw3⟩ := hw'; go_simp; try with_reducible rfl
                try simp only [Act.put, List.setIfInBounds_toArray, List.set_cons_zero, List.set_cons_succ]
                refine wpAnyH_takeD (some 27) (i := 7) (v := ?_) rfl rfl (by kernel_rfl) (by kernel_rfl) (by kernel_rfl) (fun _ _ _ h => h) (.inl ⟨by kernel_rfl, ?_⟩) t1 ?_
                rotate_left
                · intro w' hw'; obtain ⟨hw1, hw2, hw3⟩ := hw'; go_simp; try with_reducible rfl
                try simp only [Act.put, List.setIfInBounds_toArray, List.set_cons_zero, List.set_cons_succ]
                refine wpAnyH_takeD (some 28) (i := 8) (v := ?_) rfl rfl (by kernel_rfl) (by kernel_rfl) (by kernel_rfl) (fun _ _ _ h => h) (.inl ⟨by kernel_rfl, ?_⟩) t1 ?_
                rotate_left
                · intro w' hw'; obtain ⟨hw1, hw2, hw3⟩ := hw'; go_simp; try with_reducible rfl
                try simp only [Act.put, List.setIfInBounds_toArray, List.set_cons_zero, List.set_cons_succ]
                refine wpAnyH_takeD (some 29) (i := 9) (v := ?_) rfl rfl (by kernel_rfl) (by kernel_rfl) (by kernel_rfl) (fun _ _ _ h => h) (.inl ⟨by kernel_rfl, ?_⟩) t1 ?_
                rotate_left
                · intro w' hw'; obtain ⟨hw1, hw2, hw3⟩ := hw'; go_simp; try with_reducible rfl
                try simp only [Act.put, List.setIfInBounds_toArray, List.set_cons_zero, List.set_cons_succ]
                refine wpAnyH_takeD (some 30) (i := 10) (v := ?_) rfl rfl (by kernel_rfl) (by kernel_rfl) (by kernel_rfl) (fun _ _ _ h => h) (.inl ⟨by kernel_rfl, ?_⟩) t1 ?_
                rotate_left
                · intro w' hw'; obtain ⟨hw1, hw2, hw3⟩ := hw'; go_simp; try with_reducible rfl
                try simp only [Act.put, List.setIfInBounds_toArray, List.set_cons_zero, List.set_cons_succ]
                refine wpAnyH_takeD (some 31) (i := 11) (v := ?_) rfl rfl (by kernel_rfl) (by kernel_rfl) (by kernel_rfl) (fun _ _ _ h => h) (.inl ⟨by kernel_rfl, ?_⟩) t1 ?_
                rotate_left
                · intro w' hw'; obtain ⟨hw1, hw2, hw3⟩ := hw'; go_simp; try with_reducible rfl
                try simp only [Act.put, List.setIfInBounds_toArray, List.set_cons_zero, List.set_cons_succ]
                refine wpAnyH_takeD (some 32) (i := 12) (v := ?_) rfl rfl (by kernel_rfl) (by kernel_rfl) (by kernel_rfl) (fun _ _ _ h => h) (.inl ⟨by kernel_rfl, ?_⟩) t1 ?_
                rotate_left
                · intro w' hw'; obtain ⟨hw1, hw2, hw3⟩ := hw'; go_simp; try with_reducible rfl
                try simp only [Act.put, List.setIfInBounds_toArray, List.set_cons_zero, List.set_cons_succ]
                refine wpAnyH_takeD (some 33) (i := 13) (v := ?_) rfl rfl (by kernel_rfl) (by kernel_rfl) (by kernel_rfl) (fun _ _ _ h => h) (.inl ⟨by kernel_rfl, ?_⟩) t1 ?_
                rotate_left
                · intro w' hw'; obtain ⟨hw1, hw2, hw3⟩ := hw'; go_simp; try with_reducible rfl
                try simp only [Act.put, List.setIfInBounds_toArray, List.set_cons_zero, List.set_cons_succ]
                refine wpAnyH_takeD (some 34) (i := 14) (v := ?_) rfl rfl (by kernel_rfl) (by kernel_rfl) (by kernel_rfl) (fun _ _ _ h => h) (.inl ⟨by kernel_rfl, ?_⟩) t1 ?_
                rotate_left
                · intro w' hw'; obtain ⟨hw1, hw2, hw3⟩ := hw'; go_simp; try with_reducible rfl
                try simp only [Act.put, List.setIfInBounds_toArray, List.set_cons_zero, List.set_cons_succ]
                refine wpAnyH_takeD (some 35) (i := 15) (v := ?_) rfl rfl (by kernel_rfl) (by kernel_rfl) (by kernel_rfl) (fun _ _ _ h => h) (.inl ⟨by kernel_rfl, ?_⟩) t1 ?_
                rotate_left
                · intro w' hw'; obtain ⟨hw1, hw2, hw3⟩ := hw'; go_simp; try with_reducible rfl
                try simp only [Act.put, List.setIfInBounds_toArray, List.set_cons_zero, List.set_cons_succ]
                refine wpAnyH_takeD (some 36) (i := 16) (v := ?_) rfl rfl (by kernel_rfl) (by kernel_rfl) (by kernel_rfl) (fun _ _ _ h => h) (.inl ⟨by kernel_rfl, ?_⟩) t1 ?_
                rotate_left
                · intro w' hw'; obtain ⟨hw1, hw2, hw3⟩ := hw'; go_simp; try with_reducible rfl
                try simp only [Act.put, List.setIfInBounds_toArray, List.set_cons_zero, List.set_cons_succ]
                refine wpAnyH_takeD (some 37) (i := 17) (v := ?_) rfl rfl (by kernel_rfl) (by kernel_rfl) (by kernel_rfl) (fun _ _ _ h => h) (.inl ⟨by kernel_rfl, ?_⟩) t1 ?_
                rotate_left
                · intro w' hw'; obtain ⟨hw1, hw2, hw3⟩ := hw'; go_simp; try with_reducible rfl
                try simp only [Act.put, List.setIfInBounds_toArray, List.set_cons_zero, List.set_cons_succ]
                refine wpAnyH_takeD (some 38) (i := 18) (v := ?_) rfl rfl (by kernel_rfl) (by kernel_rfl) (by kernel_rfl) (fun _ _ _ h => h) (.inl ⟨by kernel_rfl, ?_⟩) t1 ?_
                rotate_left
                · intro w' hw'; obtain ⟨hw1, hw2, hw3⟩ := hw'; go_simp; try with_reducible rfl
                try simp only [Act.put, List.setIfInBounds_toArray, List.set_cons_zero, List.set_cons_succ]
                refine wpAnyH_takeD (some 39) (i := 19) (v := ?_) rfl rfl (by kernel_rfl) (by kernel_rfl) (by kernel_rfl) (fun _ _ _ h => h) (.inl ⟨by kernel_rfl, ?_⟩) t1 ?_
                rotate_left
                · intro w' hw'; obtain ⟨hw1, hw2, hw3⟩ := hw'; go_simp; try with_reducible rfl
                try simp only [Act.put, List.setIfInBounds_toArray, List.set_cons_zero, List.set_cons_succ]
                refine wpAnyH_takeD (some 40) (i := 20) (v := ?_) rfl rfl (by kernel_rfl) (by kernel_rfl) (by kernel_rfl) (fun _ _ _ h => h) (.inl ⟨by kernel_rfl, ?_⟩) t1 ?_
                rotate_left
                · intro w' hw'; obtain ⟨hw1, hw2, hw3⟩ := hw'; go_simp; try with_reducible rfl
                try simp only [Act.put, List.setIfInBounds_toArray, List.set_cons_zero, List.set_cons_succ]
                refine wpAnyH_takeD (some 41) (i := 21) (v := ?_) rfl rfl (by kernel_rfl) (by kernel_rfl) (by kernel_rfl) (fun _ _ _ h => h) (.inl ⟨by kernel_rfl, ?_⟩) t1 ?_
                rotate_left
                · intro w' hw'; obtain ⟨hw1, hw2, hw3⟩ := hw'; go_simp; try with_reducible rfl
                try simp only [Act.put, List.setIfInBounds_toArray, List.set_cons_zero, List.set_cons_succ]
                refine wpAnyH_takeD (some 42) (i := 22) (v := ?_) rfl rfl (by kernel_rfl) (by kernel_rfl) (by kernel_rfl) (fun _ _ _ h => h) (.inl ⟨by kernel_rfl, ?_⟩) t1 ?_
                rotate_left
                · intro w' hw'; obtain ⟨hw1, hw2, hw3⟩ := hw'; go_simp; try with_reducible rfl
                try simp only [Act.put, List.setIfInBounds_toArray, List.set_cons_zero, List.set_cons_succ]
                refine wpAnyH_takeD (some 43) (i := 23) (v := ?_) rfl rfl (by kernel_rfl) (by kernel_rfl) (by kernel_rfl) (fun _ _ _ h => h) (.inl ⟨by kernel_rfl, ?_⟩) t1 ?_
                rotate_left
                · intro w' hw'; obtain ⟨hw1, hw2, hw3⟩ := hw'; go_simp; try with_reducible rfl
                try simp only [Act.put, List.setIfInBounds_toArray, List.set_cons_zero, List.set_cons_succ]
                refine wpAnyH_done (by kernel_rfl) ?_ _
                go_wp2_with fail
                go_roundw
                case rel => exact ⟨k + 1, by omega, by go_num, EQ.out, HBX.out.trans (t1.1.mono hzr)⟩
                case measure => simp [intOf]; omega
        · obtain rfl : k = n := by omega
          rw [ffGo_end] at hq
          subst hq
          go_wp2_with fail
          go_ret2
          exact ⟨rfl, hB⟩
    · rw [if_neg h60] at HV
      have E := E2.out hv (by rw [← HN.out]; omega)
      subst E
      clear hv h60
      go_enter Try.func6, Try.ntmps6
      go_wp2_with fail
      refine HV.out.mono ?_
      rintro e w1 ⟨rfl, rfl⟩
      go_wp2_with fail
      go_ret2
      exact ⟨rfl, Below.refl _ _⟩
end Go.Proofs.Ytnfgapgjkkeofaa
