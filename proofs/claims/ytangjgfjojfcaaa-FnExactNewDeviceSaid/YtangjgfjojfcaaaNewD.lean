/- NewDevice: the program's and the model's answers; devices with a stack of their own. -/
import Derived.Test.YtangjgfjojfcaaaDevR
import Derived.Test.YtangjgfjojfcaaaOwnB
import Derived.Laws.OwnMore
namespace Go.Proofs.Ytangjgfjojfcaaa
open Go.RowKit
set_option linter.unusedVariables false
set_option linter.unusedSimpArgs false
set_option maxRecDepth 100000 in
set_option maxHeartbeats 2000000 in
theorem eqDev_own (b1 b2 : Nat) (s1 s2 : Value) (zs : List Int) (d0 d1 d2 d3 d4 d5 d6 d7 : Int) (pr : Int) (st : Bool) (tk : Int) (w : World) (h1 : OwnB w b1 s1 zs) (h2 : OwnB w b2 s2 zs) :
    Calls Try.prog 15 #[.agg #[s1, .int .u8 d0, .int .u8 d1, .int .u8 d2, .int .u8 d3, .int .u8 d4, .int .u8 d5, .int .u8 d6, .int .u8 d7, .int .i64 pr, .bool st, .int .i64 tk], .agg #[s2, .int .u8 d0, .int .u8 d1, .int .u8 d2, .int .u8 d3, .int .u8 d4, .int .u8 d5, .int .u8 d6, .int .u8 d7, .int .i64 pr, .bool st, .int .i64 tk]] w fun e w' => e = .returned (.bool true) ∧ Below w.heap.size w w' := by
  obtain ⟨W, hW⟩ : ∃ W, W = (w.alloc (.cells #[s1, .int .u8 d0, .int .u8 d1, .int .u8 d2, .int .u8 d3, .int .u8 d4, .int .u8 d5, .int .u8 d6, .int .u8 d7, .int .i64 pr, .bool st, .int .i64 tk] 31)).alloc (.cells #[s2, .int .u8 d0, .int .u8 d1, .int .u8 d2, .int .u8 d3, .int .u8 d4, .int .u8 d5, .int .u8 d6, .int .u8 d7, .int .i64 pr, .bool st, .int .i64 tk] 31) := ⟨_, rfl⟩
  have bel : Below w.heap.size w W := by rw [hW]; exact (boxD_bel w _ _).alloc (by simp) _
  have r1 : Row W w.heap.size 31 [s1, .int .u8 d0, .int .u8 d1, .int .u8 d2, .int .u8 d3, .int .u8 d4, .int .u8 d5, .int .u8 d6, .int .u8 d7, .int .i64 pr, .bool st, .int .i64 tk] := by rw [hW]; exact (Row.new w _ _).alloc _
  have r2 : Row W (w.heap.size + 1) 31 [s2, .int .u8 d0, .int .u8 d1, .int .u8 d2, .int .u8 d3, .int .u8 d4, .int .u8 d5, .int .u8 d6, .int .u8 d7, .int .i64 pr, .bool st, .int .i64 tk] := by
    have h := Row.new (w.alloc (.cells #[s1, .int .u8 d0, .int .u8 d1, .int .u8 d2, .int .u8 d3, .int .u8 d4, .int .u8 d5, .int .u8 d6, .int .u8 d7, .int .i64 pr, .bool st, .int .i64 tk] 31)) 31 [s2, .int .u8 d0, .int .u8 d1, .int .u8 d2, .int .u8 d3, .int .u8 d4, .int .u8 d5, .int .u8 d6, .int .u8 d7, .int .i64 pr, .bool st, .int .i64 tk]
    simp only [World.size_alloc] at h
    rw [hW]; exact h
  have R1 := hid r1
  have R2 := hid r2
  have HE := hid (eqB_own b1 b2 s1 s2 zs W (h1.keep bel) (h2.keep bel))
  have l1 := r1.lt
  have l2 := r2.lt
  have BE := hid bel
  have HW := hid hW
  have n1 : (pr != pr) = false := by simp
  have n2 : (st != st) = false := by simp
  have n3 : (tk != tk) = false := by simp
  clear h1 h2 r1 r2 bel hW
  go_enter Try.func15, Try.ntmps15
  go_wp2_with fail
  rw [← HW.out]
  refine HE.out.mono ?_
  rintro e w1 ⟨rfl, dd, hd⟩
  have hB1 : Below W.heap.size W w1 := by rw [hd]; exact below_drewN (Below.refl _ _) _
  have s1' := R1.out.below hB1 l1
  have s2' := R2.out.below hB1 l2
  have S1 := hid s1'
  have S2 := hid s2'
  have p1 := s1'.cell 1; have p2 := s1'.cell 2; have p3 := s1'.cell 3; have p4 := s1'.cell 4; have p5 := s1'.cell 5; have p6 := s1'.cell 6; have p7 := s1'.cell 7; have p8 := s1'.cell 8; have q1 := s2'.cell 1; have q2 := s2'.cell 2; have q3 := s2'.cell 3; have q4 := s2'.cell 4; have q5 := s2'.cell 5; have q6 := s2'.cell 6; have q7 := s2'.cell 7; have q8 := s2'.cell 8
  simp only [List.getElem?_cons_zero, List.getElem?_cons_succ] at p1 p2 p3 p4 p5 p6 p7 p8 q1 q2 q3 q4 q5 q6 q7 q8
  clear s1' s2' hd
  go_wp2_with fail
  refine (eqDigits_same _ _ _ _ _ _ _ _ _).mono ?_
  rintro e w2 ⟨rfl, hB2⟩
  have hz1 := hB1.size
  have s1' := S1.out.below hB2 (by omega)
  have s2' := S2.out.below hB2 (by omega)
  clear p1 p2 p3 p4 p5 p6 p7 p8 q1 q2 q3 q4 q5 q6 q7 q8
  have p9 := s1'.cell 9; have p10 := s1'.cell 10; have p11 := s1'.cell 11; have q9 := s2'.cell 9; have q10 := s2'.cell 10; have q11 := s2'.cell 11
  simp only [List.getElem?_cons_zero, List.getElem?_cons_succ] at p9 p10 p11 q9 q10 q11
  clear s1' s2'
  go_wp2_with fail
  go_ret
  exact ⟨rfl, BE.out.trans ((hB1.mono BE.out.size).trans (hB2.mono (by have := BE.out.size; omega)))⟩
theorem markDev_own (base : Nat) (sl : Value) (zs : List Int) (d0 d1 d2 d3 d4 d5 d6 d7 : Int) (pr : Int) (st : Bool) (tk : Int) (w : World) (h : OwnB w base sl zs) (hb : base ≤ w.heap.size) :
    Calls Try.prog 26 #[.agg #[sl, .int .u8 d0, .int .u8 d1, .int .u8 d2, .int .u8 d3, .int .u8 d4, .int .u8 d5, .int .u8 d6, .int .u8 d7, .int .i64 pr, .bool st, .int .i64 tk], .int .i64 1] w fun e w' => e = .returned (.int .i64 (1 + (zs.length : Int))) ∧ OwnB w' base sl (marksB 1 zs.length) ∧ Below base w w' := by
  have bel := boxD_bel w 31 #[sl, .int .u8 d0, .int .u8 d1, .int .u8 d2, .int .u8 d3, .int .u8 d4, .int .u8 d5, .int .u8 d6, .int .u8 d7, .int .i64 pr, .bool st, .int .i64 tk]
  have H := hid (markB_own base sl zs _ (h.keep bel) (Nat.le_trans hb bel.size))
  have BE := hid bel
  clear h bel
  go_enter Try.func26, Try.ntmps26
  go_wp2_with fail
  refine H.out.mono ?_
  rintro e w1 ⟨rfl, hO, hB, _⟩
  go_wp2_with fail
  go_ret
  exact ⟨rfl, hO, (BE.out.mono hb).trans hB⟩
theorem markDev_only (base : Nat) (sl : Value) (zs : List Int) (d0 d1 d2 d3 d4 d5 d6 d7 : Int) (pr : Int) (st : Bool) (tk : Int) (w : World) (h : OwnB w base sl zs) (hb : base ≤ w.heap.size) :
    Calls Try.prog 26 #[.agg #[sl, .int .u8 d0, .int .u8 d1, .int .u8 d2, .int .u8 d3, .int .u8 d4, .int .u8 d5, .int .u8 d6, .int .u8 d7, .int .i64 pr, .bool st, .int .i64 tk], .int .i64 1] w fun e w' => e = .returned (.int .i64 (1 + (zs.length : Int))) ∧ OwnB w' base sl (marksB 1 zs.length) ∧ Below base w w' ∧ (∀ q xs, Row w q 31 xs → Row w' q 31 xs) := by
  have bel := boxD_bel w 31 #[sl, .int .u8 d0, .int .u8 d1, .int .u8 d2, .int .u8 d3, .int .u8 d4, .int .u8 d5, .int .u8 d6, .int .u8 d7, .int .i64 pr, .bool st, .int .i64 tk]
  have H := hid (markB_only base sl zs _ (h.keep bel) (Nat.le_trans hb bel.size))
  have BE := hid bel
  clear h bel
  go_enter Try.func26, Try.ntmps26
  go_wp2_with fail
  refine H.out.mono ?_
  rintro e w1 ⟨rfl, hO, hB, _, hK⟩
  go_wp2_with fail
  go_ret
  exact ⟨rfl, hO, (BE.out.mono hb).trans hB, fun q xs hr => hK q _ xs (by decide) (hr.alloc _)⟩
theorem heldDev_own (base : Nat) (sl : Value) (n : Nat) (d0 d1 d2 d3 d4 d5 d6 d7 : Int) (pr : Int) (st : Bool) (tk : Int) (w : World) (h : OwnB w base sl (marksB 1 n)) :
    Calls Try.prog 27 #[.agg #[sl, .int .u8 d0, .int .u8 d1, .int .u8 d2, .int .u8 d3, .int .u8 d4, .int .u8 d5, .int .u8 d6, .int .u8 d7, .int .i64 pr, .bool st, .int .i64 tk], .int .i64 1] w fun e w' => e = .returned (.int .i64 (1 + (n : Int))) ∧ Below w.heap.size w w' := by
  have bel := boxD_bel w 31 #[sl, .int .u8 d0, .int .u8 d1, .int .u8 d2, .int .u8 d3, .int .u8 d4, .int .u8 d5, .int .u8 d6, .int .u8 d7, .int .i64 pr, .bool st, .int .i64 tk]
  have H := hid (heldB_own base sl n _ (h.keep bel))
  have BE := hid bel
  have hz : (0 : Int) ≤ 1 + (n : Int) := by omega
  clear h bel
  go_enter Try.func27, Try.ntmps27
  go_wp2_with fail
  refine H.out.mono ?_
  rintro e w1 ⟨rfl, d, rfl⟩
  go_wp2_with fail
  go_ret
  exact ⟨rfl, below_drewN BE.out _⟩
/-- a new device's stack and preset, with a code -/
def ndR (zs : List Int) : List Int × Int × Int := if okL zs then (zs, -1, 0) else ([], 0, 1)
theorem ndR_no {zs : List Int} (h : okL zs = false) : ndR zs = ([], 0, 1) := by simp [ndR, h]
theorem ndR_yes {zs : List Int} (h : okL zs = true) : ndR zs = (zs, -1, 0) := by simp [ndR, h]
def NewR (w : World) (R : List Int × Int × Int) (e : Ending) (w' : World) : Prop :=
  ∃ sl, e = .returned (.tuple #[.agg #[sl, .int .u8 0, .int .u8 0, .int .u8 0, .int .u8 0, .int .u8 0, .int .u8 0, .int .u8 0, .int .u8 0, .int .i64 R.2.1, .bool false, .int .i64 0], .int .i64 R.2.2]) ∧ OwnB w' w.heap.size sl R.1 ∧ Below w.heap.size w w'
theorem map_cells {w : World} {b : Nat} {zs : List Int} (h : Stk w b zs) : ∀ j u, (zs.map (Value.int .u8))[j]? = some u → w.cell? ((⟨b, 0, none⟩ : Addr).add j) = some u := by
  intro j u hj
  have hlt : j < zs.length := by
    rcases Nat.lt_or_ge j zs.length with h' | h'
    · exact h'
    · rw [List.getElem?_eq_none (by simpa using h')] at hj; cases hj
  have e : (⟨b, 0, none⟩ : Addr).add j = ⟨b, j, none⟩ := by
    by_cases h0 : j = 0
    · subst h0; simp [Addr.add]
    · simp [Addr.add, h0]
  rw [e, h.2.1 j hlt]
  simp [hlt] at hj
  simp [hlt, hj]
theorem Try.infoU8n : (Try.prog.info? 5).map (fun i => (i.zero, i.size, i.bytes)) = some (some (.int .u8 0), 1, 1) := by kernel_rfl
/-- a stack is appended to an empty one of the call's own -/
def CloR (w : World) (base : Nat) (zs : List Int) (v : Value) (w' : World) : Prop := OwnB w' base v zs ∧ Below base w w'
set_option maxRecDepth 100000 in
set_option maxHeartbeats 1000000 in
theorem clone_any (b n cap : Nat) (zs : List Int) (w : World) (hS : Stk w b zs) (hn : n = zs.length) (h8 : n ≤ 8) :
    Calls Try.prog 53 #[.slice (some ⟨b, 0, none⟩) n cap] w fun e w' => ∃ v, e = .returned v ∧ CloR w w.heap.size zs v w' := by
  obtain ⟨i0, hi, iz0, iz1, iz2⟩ := info_parts Try.infoU8n
  obtain ⟨base, hbase⟩ : ∃ z, w.heap.size = z := ⟨_, rfl⟩
  have HN := hid hn
  have B1 := hid ((Below.refl base w).alloc (by omega) (.cells #[] 5))
  have O1 := hid (World.ownsRow_lit (base := base) (e := 5) (size := 1) w #[] 0 (by omega) (by unfold maxLen; omega) rfl)
  have MC := hid (map_cells (hS.below ((Below.refl w.heap.size w).alloc (Nat.le_refl _) (.cells #[] 5)) hS.1))
  clear hS hn
  rw [hbase]
  have HB := hid hbase
  clear hbase
  have HE : ∀ w, Sem.run Try.prog (binOp .eql 28 (.slice (some ⟨b, 0, none⟩) n cap) (.slice none 0 0)) w = .ok (.bool false) w := fun _ => by first | kernel_rfl | rfl | simp [binOp, go_sem]
  go_enter Try.func53, Try.ntmps53
  go_upto_region 4 with (at_builtin; refine wpList_append_own _ rfl _ _ 28 rfl base 5 i0 (.int .u8 0) 1 1 Try.underlying28 hi iz0 iz1 iz2 rfl (by decide) _ _ _ rfl O1.out ⟨b, 0, none⟩ n cap (zs.map (Value.int .u8)) rfl (by simp [HN.out]) MC.out (by intro u hu; simp at hu; obtain ⟨z, _, rfl⟩ := hu; rfl) (by unfold maxLen; omega) (by omega) (by have := HB.out; simp; omega) ?_; intro v' w2 hown' hgrow _)
  have hB2 := (B1.out.grown hgrow (by have := HB.out; simp; omega) (fun k e => by have := (O1.out.lt k e).1; omega))
  have HO := hid (OwnB.of_owns (zs := zs) (by simpa using hown') (by have := HN.out; omega))
  have HB2 := hid hB2
  clear hown' hgrow hB2
  go_ret
  exact ⟨_, rfl, HO.out, HB2.out⟩
theorem OwnB.lowb {w : World} {base b' : Nat} {v : Value} {zs : List Int} (h : OwnB w base v zs) (hb : b' ≤ base) : OwnB w b' v zs := by
  obtain ⟨a, cap, h1, h2, h3⟩ := h
  refine ⟨a, cap, h1, h2, ?_⟩
  rcases h3 with h0 | ⟨g, rest, e, hg, hr⟩
  · exact .inl h0
  · exact .inr ⟨g, rest, e, Nat.le_trans hb hg, hr⟩
theorem own_sets {w : World} {b k : Nat} {v : Value} {zs : List Int} (_ : OwnB w b v zs) (h : OwnB w k v zs) (hk : b < k) {u0 u1 u2 u3 u4 u5 u6 u7 u8 u9 u10 u11 : Value} : OwnB ((((((((((((w.setCell ⟨b, 0, none⟩ (u0)).setCell ⟨b, 1, none⟩ (u1)).setCell ⟨b, 2, none⟩ (u2)).setCell ⟨b, 3, none⟩ (u3)).setCell ⟨b, 4, none⟩ (u4)).setCell ⟨b, 5, none⟩ (u5)).setCell ⟨b, 6, none⟩ (u6)).setCell ⟨b, 7, none⟩ (u7)).setCell ⟨b, 8, none⟩ (u8)).setCell ⟨b, 9, none⟩ (u9)).setCell ⟨b, 10, none⟩ (u10)).setCell ⟨b, 11, none⟩ (u11)) b v zs := by
  obtain ⟨a, cap, h1, h2, h3⟩ := h
  refine ⟨a, cap, h1, h2, ?_⟩
  rcases h3 with h0 | ⟨g, rest, e, hg, hr⟩
  · exact .inl h0
  · have ne : b ≠ g := by omega
    exact .inr ⟨g, rest, e, by omega, ((((((((((((hr.other ne _).other ne _).other ne _).other ne _).other ne _).other ne _).other ne _).other ne _).other ne _).other ne _).other ne _).other ne _)⟩
set_option maxRecDepth 100000 in
set_option maxHeartbeats 4000000 in
theorem implNewDevice_any (b n cap : Nat) (zs : List Int) (w : World) (hS : Stk w b zs) (hn : n = zs.length) :
    Calls Try.prog 23 #[.slice (some ⟨b, 0, none⟩) n cap] w (NewR w (ndR zs)) := by
  obtain ⟨U, hU⟩ : ∃ U, U = w.alloc (.cells #[.slice none 0 0, .int .u8 0, .int .u8 0, .int .u8 0, .int .u8 0, .int .u8 0, .int .u8 0, .int .u8 0, .int .u8 0, .int .i64 0, .bool false, .int .i64 0] 31) := ⟨_, rfl⟩
  have bU : Below w.heap.size w U := by rw [hU]; exact boxD_bel _ _ _
  have sU : U.heap.size = w.heap.size + 1 := by rw [hU]; simp
  have R0 := hid (show Row U w.heap.size 31 [.slice none 0 0, .int .u8 0, .int .u8 0, .int .u8 0, .int .u8 0, .int .u8 0, .int .u8 0, .int .u8 0, .int .u8 0, .int .i64 0, .bool false, .int .i64 0] by rw [hU]; exact Row.new _ _ _)
  have SU := hid (hS.below bU hS.1)
  have HV := hid (validStack_any b n cap zs U SU.out hn)
  have BU := hid bU
  have ZU := hid sU
  have HU := hid hU
  have HN := hid hn
  cases hv : okL zs with
  | false =>
    rw [ndR_no hv]
    rw [hv] at HV
    have r0 := R0.out
    clear hS hn bU sU hU hv
    go_enter Try.func23, Try.ntmps23
    go_wp2_with fail
    rw [← HU.out]
    refine HV.out.mono ?_
    rintro e w1 ⟨rfl, rfl⟩
    obtain ⟨Y, hY⟩ : ∃ Y, Y = ((((((((((((U.setCell ⟨w.heap.size, 0, none⟩ (.slice none 0 0)).setCell ⟨w.heap.size, 1, none⟩ (.int .u8 0)).setCell ⟨w.heap.size, 2, none⟩ (.int .u8 0)).setCell ⟨w.heap.size, 3, none⟩ (.int .u8 0)).setCell ⟨w.heap.size, 4, none⟩ (.int .u8 0)).setCell ⟨w.heap.size, 5, none⟩ (.int .u8 0)).setCell ⟨w.heap.size, 6, none⟩ (.int .u8 0)).setCell ⟨w.heap.size, 7, none⟩ (.int .u8 0)).setCell ⟨w.heap.size, 8, none⟩ (.int .u8 0)).setCell ⟨w.heap.size, 9, none⟩ (.int .i64 0)).setCell ⟨w.heap.size, 10, none⟩ (.bool false)).setCell ⟨w.heap.size, 11, none⟩ (.int .i64 0)) := ⟨_, rfl⟩
    have RY := hid (show Row Y w.heap.size 31 [.slice none 0 0, .int .u8 0, .int .u8 0, .int .u8 0, .int .u8 0, .int .u8 0, .int .u8 0, .int .u8 0, .int .u8 0, .int .i64 0, .bool false, .int .i64 0] by rw [hY]; exact ((((((((((((r0.set 0 _).set 1 _).set 2 _).set 3 _).set 4 _).set 5 _).set 6 _).set 7 _).set 8 _).set 9 _).set 10 _).set 11 _))
    have BY := hid (show Below w.heap.size w Y by rw [hY]; exact ((((((((((((BU.out.setCell (p := ⟨w.heap.size, 0, none⟩) (Nat.le_refl _) _).setCell (p := ⟨w.heap.size, 1, none⟩) (Nat.le_refl _) _).setCell (p := ⟨w.heap.size, 2, none⟩) (Nat.le_refl _) _).setCell (p := ⟨w.heap.size, 3, none⟩) (Nat.le_refl _) _).setCell (p := ⟨w.heap.size, 4, none⟩) (Nat.le_refl _) _).setCell (p := ⟨w.heap.size, 5, none⟩) (Nat.le_refl _) _).setCell (p := ⟨w.heap.size, 6, none⟩) (Nat.le_refl _) _).setCell (p := ⟨w.heap.size, 7, none⟩) (Nat.le_refl _) _).setCell (p := ⟨w.heap.size, 8, none⟩) (Nat.le_refl _) _).setCell (p := ⟨w.heap.size, 9, none⟩) (Nat.le_refl _) _).setCell (p := ⟨w.heap.size, 10, none⟩) (Nat.le_refl _) _).setCell (p := ⟨w.heap.size, 11, none⟩) (Nat.le_refl _) _))
    have HY := hid hY
    have k0 := r0.cell 0; have k1 := r0.cell 1; have k2 := r0.cell 2; have k3 := r0.cell 3; have k4 := r0.cell 4; have k5 := r0.cell 5; have k6 := r0.cell 6; have k7 := r0.cell 7; have k8 := r0.cell 8; have k9 := r0.cell 9; have k10 := r0.cell 10; have k11 := r0.cell 11
    have f0 := r0.frozen 0; have f1 := r0.frozen 1; have f2 := r0.frozen 2; have f3 := r0.frozen 3; have f4 := r0.frozen 4; have f5 := r0.frozen 5; have f6 := r0.frozen 6; have f7 := r0.frozen 7; have f8 := r0.frozen 8; have f9 := r0.frozen 9; have f10 := r0.frozen 10; have f11 := r0.frozen 11
    simp only [List.getElem?_cons_zero, List.getElem?_cons_succ] at k0 k1 k2 k3 k4 k5 k6 k7 k8 k9 k10 k11
    clear hY r0
    go_wp2_with fail
    rw [← HY.out]
    clear k0 k1 k2 k3 k4 k5 k6 k7 k8 k9 k10 k11 f0 f1 f2 f3 f4 f5 f6 f7 f8 f9 f10 f11
    have ry := RY.out
    have g0 := ry.cell 0; have g1 := ry.cell 1; have g2 := ry.cell 2; have g3 := ry.cell 3; have g4 := ry.cell 4; have g5 := ry.cell 5; have g6 := ry.cell 6; have g7 := ry.cell 7; have g8 := ry.cell 8; have g9 := ry.cell 9; have g10 := ry.cell 10; have g11 := ry.cell 11
    simp only [List.getElem?_cons_zero, List.getElem?_cons_succ] at g0 g1 g2 g3 g4 g5 g6 g7 g8 g9 g10 g11
    refine bodyPost_ret (v := .tuple #[.agg #[.slice none 0 0, .int .u8 0, .int .u8 0, .int .u8 0, .int .u8 0, .int .u8 0, .int .u8 0, .int .u8 0, .int .u8 0, .int .i64 0, .bool false, .int .i64 0], .int .i64 1]) (by simp only [results, Try.results23]; simp [go_sem, g0, g1, g2, g3, g4, g5, g6, g7, g8, g9, g10, g11]) rfl ?_
    exact ⟨_, rfl, OwnB.nil _ _ _ _, BY.out⟩
  | true =>
    rw [ndR_yes hv]
    rw [hv] at HV
    obtain ⟨h1, h8, _, _, _⟩ := okL_out hv
    have h8 : n ≤ 8 := by omega
    have HC := hid (clone_any b n cap zs U SU.out hn h8)
    clear hS hn bU sU hU hv h1 h8
    go_enter Try.func23, Try.ntmps23
    go_wp2_with fail
    rw [← HU.out]
    refine HV.out.mono ?_
    rintro e w1 ⟨rfl, rfl⟩
    go_wp2_with fail
    refine HC.out.mono ?_
    rintro e w1 ⟨v, rfl, hO, hB⟩
    have hO2 := hO
    obtain ⟨a, cp, rfl, _, _⟩ := hO2
    have HO := hid hO
    have B1 := hid (BU.out.trans (hB.mono (by have := ZU.out; omega)))
    have r1 := R0.out.below hB (by have := ZU.out; omega)
    clear hO hB
    obtain ⟨Y, hY⟩ : ∃ Y, Y = ((((((((((((w1.setCell ⟨w.heap.size, 0, none⟩ (.slice a zs.length cp)).setCell ⟨w.heap.size, 1, none⟩ (.int .u8 0)).setCell ⟨w.heap.size, 2, none⟩ (.int .u8 0)).setCell ⟨w.heap.size, 3, none⟩ (.int .u8 0)).setCell ⟨w.heap.size, 4, none⟩ (.int .u8 0)).setCell ⟨w.heap.size, 5, none⟩ (.int .u8 0)).setCell ⟨w.heap.size, 6, none⟩ (.int .u8 0)).setCell ⟨w.heap.size, 7, none⟩ (.int .u8 0)).setCell ⟨w.heap.size, 8, none⟩ (.int .u8 0)).setCell ⟨w.heap.size, 9, none⟩ (.int .i64 (-1))).setCell ⟨w.heap.size, 10, none⟩ (.bool false)).setCell ⟨w.heap.size, 11, none⟩ (.int .i64 0)) := ⟨_, rfl⟩
    have RY := hid (show Row Y w.heap.size 31 [.slice a zs.length cp, .int .u8 0, .int .u8 0, .int .u8 0, .int .u8 0, .int .u8 0, .int .u8 0, .int .u8 0, .int .u8 0, .int .i64 (-1), .bool false, .int .i64 0] by rw [hY]; exact ((((((((((((r1.set 0 _).set 1 _).set 2 _).set 3 _).set 4 _).set 5 _).set 6 _).set 7 _).set 8 _).set 9 _).set 10 _).set 11 _))
    have BY := hid (show Below w.heap.size w Y by rw [hY]; exact ((((((((((((B1.out.setCell (p := ⟨w.heap.size, 0, none⟩) (Nat.le_refl _) _).setCell (p := ⟨w.heap.size, 1, none⟩) (Nat.le_refl _) _).setCell (p := ⟨w.heap.size, 2, none⟩) (Nat.le_refl _) _).setCell (p := ⟨w.heap.size, 3, none⟩) (Nat.le_refl _) _).setCell (p := ⟨w.heap.size, 4, none⟩) (Nat.le_refl _) _).setCell (p := ⟨w.heap.size, 5, none⟩) (Nat.le_refl _) _).setCell (p := ⟨w.heap.size, 6, none⟩) (Nat.le_refl _) _).setCell (p := ⟨w.heap.size, 7, none⟩) (Nat.le_refl _) _).setCell (p := ⟨w.heap.size, 8, none⟩) (Nat.le_refl _) _).setCell (p := ⟨w.heap.size, 9, none⟩) (Nat.le_refl _) _).setCell (p := ⟨w.heap.size, 10, none⟩) (Nat.le_refl _) _).setCell (p := ⟨w.heap.size, 11, none⟩) (Nat.le_refl _) _))
    have HY := hid hY
    have k0 := r1.cell 0; have k1 := r1.cell 1; have k2 := r1.cell 2; have k3 := r1.cell 3; have k4 := r1.cell 4; have k5 := r1.cell 5; have k6 := r1.cell 6; have k7 := r1.cell 7; have k8 := r1.cell 8; have k9 := r1.cell 9; have k10 := r1.cell 10; have k11 := r1.cell 11
    have f0 := r1.frozen 0; have f1 := r1.frozen 1; have f2 := r1.frozen 2; have f3 := r1.frozen 3; have f4 := r1.frozen 4; have f5 := r1.frozen 5; have f6 := r1.frozen 6; have f7 := r1.frozen 7; have f8 := r1.frozen 8; have f9 := r1.frozen 9; have f10 := r1.frozen 10; have f11 := r1.frozen 11
    simp only [List.getElem?_cons_zero, List.getElem?_cons_succ] at k0 k1 k2 k3 k4 k5 k6 k7 k8 k9 k10 k11
    clear hY r1
    go_wp2_with fail
    rw [← HY.out]
    clear k0 k1 k2 k3 k4 k5 k6 k7 k8 k9 k10 k11 f0 f1 f2 f3 f4 f5 f6 f7 f8 f9 f10 f11
    have ry := RY.out
    have g0 := ry.cell 0; have g1 := ry.cell 1; have g2 := ry.cell 2; have g3 := ry.cell 3; have g4 := ry.cell 4; have g5 := ry.cell 5; have g6 := ry.cell 6; have g7 := ry.cell 7; have g8 := ry.cell 8; have g9 := ry.cell 9; have g10 := ry.cell 10; have g11 := ry.cell 11
    simp only [List.getElem?_cons_zero, List.getElem?_cons_succ] at g0 g1 g2 g3 g4 g5 g6 g7 g8 g9 g10 g11
    have HOY := hid (show OwnB Y w.heap.size (.slice a zs.length cp) zs from by
      rw [HY.out]
      exact own_sets (HO.out.lowb (by have := ZU.out; omega)) HO.out (by have := ZU.out; omega))
    refine bodyPost_ret (v := .tuple #[.agg #[.slice a zs.length cp, .int .u8 0, .int .u8 0, .int .u8 0, .int .u8 0, .int .u8 0, .int .u8 0, .int .u8 0, .int .u8 0, .int .i64 (-1), .bool false, .int .i64 0], .int .i64 0]) (by simp only [results, Try.results23]; simp [go_sem, g0, g1, g2, g3, g4, g5, g6, g7, g8, g9, g10, g11]) rfl ?_
    exact ⟨_, rfl, HOY.out, BY.out⟩
set_option maxRecDepth 100000 in
set_option maxHeartbeats 4000000 in
theorem specNewDevice_any (b n cap : Nat) (zs : List Int) (w : World) (hS : Stk w b zs) (hn : n = zs.length) :
    Calls Try.prog 21 #[.slice (some ⟨b, 0, none⟩) n cap] w (NewR w (ndR zs)) := by
  obtain ⟨U, hU⟩ : ∃ U, U = w.alloc (.cells #[.slice none 0 0, .int .u8 0, .int .u8 0, .int .u8 0, .int .u8 0, .int .u8 0, .int .u8 0, .int .u8 0, .int .u8 0, .int .i64 0, .bool false, .int .i64 0] 31) := ⟨_, rfl⟩
  have bU : Below w.heap.size w U := by rw [hU]; exact boxD_bel _ _ _
  have sU : U.heap.size = w.heap.size + 1 := by rw [hU]; simp
  have R0 := hid (show Row U w.heap.size 31 [.slice none 0 0, .int .u8 0, .int .u8 0, .int .u8 0, .int .u8 0, .int .u8 0, .int .u8 0, .int .u8 0, .int .u8 0, .int .i64 0, .bool false, .int .i64 0] by rw [hU]; exact Row.new _ _ _)
  have SU := hid (hS.below bU hS.1)
  have HV := hid (l01Ok_any b n cap zs U SU.out hn)
  have BU := hid bU
  have ZU := hid sU
  have HU := hid hU
  have HN := hid hn
  cases hv : okL zs with
  | false =>
    rw [ndR_no hv]
    rw [hv] at HV
    have r0 := R0.out
    clear hS hn bU sU hU hv
    go_enter Try.func21, Try.ntmps21
    go_wp2_with fail
    rw [← HU.out]
    refine HV.out.mono ?_
    rintro e w1 ⟨rfl, rfl⟩
    obtain ⟨Y, hY⟩ : ∃ Y, Y = ((((((((((((U.setCell ⟨w.heap.size, 0, none⟩ (.slice none 0 0)).setCell ⟨w.heap.size, 1, none⟩ (.int .u8 0)).setCell ⟨w.heap.size, 2, none⟩ (.int .u8 0)).setCell ⟨w.heap.size, 3, none⟩ (.int .u8 0)).setCell ⟨w.heap.size, 4, none⟩ (.int .u8 0)).setCell ⟨w.heap.size, 5, none⟩ (.int .u8 0)).setCell ⟨w.heap.size, 6, none⟩ (.int .u8 0)).setCell ⟨w.heap.size, 7, none⟩ (.int .u8 0)).setCell ⟨w.heap.size, 8, none⟩ (.int .u8 0)).setCell ⟨w.heap.size, 9, none⟩ (.int .i64 0)).setCell ⟨w.heap.size, 10, none⟩ (.bool false)).setCell ⟨w.heap.size, 11, none⟩ (.int .i64 0)) := ⟨_, rfl⟩
    have RY := hid (show Row Y w.heap.size 31 [.slice none 0 0, .int .u8 0, .int .u8 0, .int .u8 0, .int .u8 0, .int .u8 0, .int .u8 0, .int .u8 0, .int .u8 0, .int .i64 0, .bool false, .int .i64 0] by rw [hY]; exact ((((((((((((r0.set 0 _).set 1 _).set 2 _).set 3 _).set 4 _).set 5 _).set 6 _).set 7 _).set 8 _).set 9 _).set 10 _).set 11 _))
    have BY := hid (show Below w.heap.size w Y by rw [hY]; exact ((((((((((((BU.out.setCell (p := ⟨w.heap.size, 0, none⟩) (Nat.le_refl _) _).setCell (p := ⟨w.heap.size, 1, none⟩) (Nat.le_refl _) _).setCell (p := ⟨w.heap.size, 2, none⟩) (Nat.le_refl _) _).setCell (p := ⟨w.heap.size, 3, none⟩) (Nat.le_refl _) _).setCell (p := ⟨w.heap.size, 4, none⟩) (Nat.le_refl _) _).setCell (p := ⟨w.heap.size, 5, none⟩) (Nat.le_refl _) _).setCell (p := ⟨w.heap.size, 6, none⟩) (Nat.le_refl _) _).setCell (p := ⟨w.heap.size, 7, none⟩) (Nat.le_refl _) _).setCell (p := ⟨w.heap.size, 8, none⟩) (Nat.le_refl _) _).setCell (p := ⟨w.heap.size, 9, none⟩) (Nat.le_refl _) _).setCell (p := ⟨w.heap.size, 10, none⟩) (Nat.le_refl _) _).setCell (p := ⟨w.heap.size, 11, none⟩) (Nat.le_refl _) _))
    have HY := hid hY
    have k0 := r0.cell 0; have k1 := r0.cell 1; have k2 := r0.cell 2; have k3 := r0.cell 3; have k4 := r0.cell 4; have k5 := r0.cell 5; have k6 := r0.cell 6; have k7 := r0.cell 7; have k8 := r0.cell 8; have k9 := r0.cell 9; have k10 := r0.cell 10; have k11 := r0.cell 11
    have f0 := r0.frozen 0; have f1 := r0.frozen 1; have f2 := r0.frozen 2; have f3 := r0.frozen 3; have f4 := r0.frozen 4; have f5 := r0.frozen 5; have f6 := r0.frozen 6; have f7 := r0.frozen 7; have f8 := r0.frozen 8; have f9 := r0.frozen 9; have f10 := r0.frozen 10; have f11 := r0.frozen 11
    simp only [List.getElem?_cons_zero, List.getElem?_cons_succ] at k0 k1 k2 k3 k4 k5 k6 k7 k8 k9 k10 k11
    clear hY r0
    go_wp2_with fail
    rw [← HY.out]
    clear k0 k1 k2 k3 k4 k5 k6 k7 k8 k9 k10 k11 f0 f1 f2 f3 f4 f5 f6 f7 f8 f9 f10 f11
    have ry := RY.out
    have g0 := ry.cell 0; have g1 := ry.cell 1; have g2 := ry.cell 2; have g3 := ry.cell 3; have g4 := ry.cell 4; have g5 := ry.cell 5; have g6 := ry.cell 6; have g7 := ry.cell 7; have g8 := ry.cell 8; have g9 := ry.cell 9; have g10 := ry.cell 10; have g11 := ry.cell 11
    simp only [List.getElem?_cons_zero, List.getElem?_cons_succ] at g0 g1 g2 g3 g4 g5 g6 g7 g8 g9 g10 g11
    refine bodyPost_ret (v := .tuple #[.agg #[.slice none 0 0, .int .u8 0, .int .u8 0, .int .u8 0, .int .u8 0, .int .u8 0, .int .u8 0, .int .u8 0, .int .u8 0, .int .i64 0, .bool false, .int .i64 0], .int .i64 1]) (by simp only [results, Try.results21]; simp [go_sem, g0, g1, g2, g3, g4, g5, g6, g7, g8, g9, g10, g11]) rfl ?_
    exact ⟨_, rfl, OwnB.nil _ _ _ _, BY.out⟩
  | true =>
    rw [ndR_yes hv]
    rw [hv] at HV
    obtain ⟨h1, h8, _, _, _⟩ := okL_out hv
    have h8 : n ≤ 8 := by omega
    obtain ⟨i0, hi, iz0, iz1, iz2⟩ := info_parts Try.infoU8n
    have B1 := hid ((Below.refl U.heap.size U).alloc (Nat.le_refl _) (.cells #[] 5))
    have O1 := hid (World.ownsRow_lit (base := U.heap.size) (e := 5) (size := 1) U #[] 0 (Nat.le_refl _) (by unfold maxLen; omega) rfl)
    have MC := hid (map_cells (SU.out.below ((Below.refl U.heap.size U).alloc (Nat.le_refl _) (.cells #[] 5)) SU.out.1))
    clear hS hn bU sU hU hv h1
    go_enter Try.func21, Try.ntmps21
    go_wp2_with fail
    rw [← HU.out]
    refine HV.out.mono ?_
    rintro e w1 ⟨rfl, rfl⟩
    go_wp2_with (at_builtin; refine wpList_append_own _ rfl _ _ 28 rfl U.heap.size 5 i0 (.int .u8 0) 1 1 Try.underlying28 hi iz0 iz1 iz2 rfl (by decide) _ _ _ rfl O1.out ⟨b, 0, none⟩ n cap (zs.map (Value.int .u8)) rfl (by simp [HN.out]) MC.out (by intro u hu; simp at hu; obtain ⟨z, _, rfl⟩ := hu; rfl) (by unfold maxLen; omega) (by omega) (by simp) ?_; intro v' w2 hown' hgrow _; have hB2 := (B1.out.grown hgrow (by simp) (fun k e => by have := (O1.out.lt k e).1; omega)); have hO := OwnB.of_owns (zs := zs) (by simpa using hown') (by have := HN.out; omega); have HO := hid hO; obtain ⟨a, cp, rfl, _, _⟩ := hO; have B1 := hid (BU.out.trans (hB2.mono (by have := ZU.out; omega))); have r1 := R0.out.below hB2 (by have := ZU.out; omega); clear hown' hgrow hB2; have k0 := r1.cell 0; have k1 := r1.cell 1; have k2 := r1.cell 2; have k3 := r1.cell 3; have k4 := r1.cell 4; have k5 := r1.cell 5; have k6 := r1.cell 6; have k7 := r1.cell 7; have k8 := r1.cell 8; have k9 := r1.cell 9; have k10 := r1.cell 10; have k11 := r1.cell 11; have f0 := r1.frozen 0; have f1 := r1.frozen 1; have f2 := r1.frozen 2; have f3 := r1.frozen 3; have f4 := r1.frozen 4; have f5 := r1.frozen 5; have f6 := r1.frozen 6; have f7 := r1.frozen 7; have f8 := r1.frozen 8; have f9 := r1.frozen 9; have f10 := r1.frozen 10; have f11 := r1.frozen 11; simp only [List.getElem?_cons_zero, List.getElem?_cons_succ] at k0 k1 k2 k3 k4 k5 k6 k7 k8 k9 k10 k11)
    clear k0 k1 k2 k3 k4 k5 k6 k7 k8 k9 k10 k11 f0 f1 f2 f3 f4 f5 f6 f7 f8 f9 f10 f11
    obtain ⟨Y, hY⟩ : ∃ Y, Y = ((((((((((((w2.setCell ⟨w.heap.size, 0, none⟩ (.slice a zs.length cp)).setCell ⟨w.heap.size, 1, none⟩ (.int .u8 0)).setCell ⟨w.heap.size, 2, none⟩ (.int .u8 0)).setCell ⟨w.heap.size, 3, none⟩ (.int .u8 0)).setCell ⟨w.heap.size, 4, none⟩ (.int .u8 0)).setCell ⟨w.heap.size, 5, none⟩ (.int .u8 0)).setCell ⟨w.heap.size, 6, none⟩ (.int .u8 0)).setCell ⟨w.heap.size, 7, none⟩ (.int .u8 0)).setCell ⟨w.heap.size, 8, none⟩ (.int .u8 0)).setCell ⟨w.heap.size, 9, none⟩ (.int .i64 (-1))).setCell ⟨w.heap.size, 10, none⟩ (.bool false)).setCell ⟨w.heap.size, 11, none⟩ (.int .i64 0)) := ⟨_, rfl⟩
    rw [← hY]
    have ry : Row Y w.heap.size 31 [.slice a zs.length cp, .int .u8 0, .int .u8 0, .int .u8 0, .int .u8 0, .int .u8 0, .int .u8 0, .int .u8 0, .int .u8 0, .int .i64 (-1), .bool false, .int .i64 0] := by rw [hY]; exact ((((((((((((r1.set 0 _).set 1 _).set 2 _).set 3 _).set 4 _).set 5 _).set 6 _).set 7 _).set 8 _).set 9 _).set 10 _).set 11 _)
    have BY : Below w.heap.size w Y := by rw [hY]; exact ((((((((((((B1.out.setCell (p := ⟨w.heap.size, 0, none⟩) (Nat.le_refl _) _).setCell (p := ⟨w.heap.size, 1, none⟩) (Nat.le_refl _) _).setCell (p := ⟨w.heap.size, 2, none⟩) (Nat.le_refl _) _).setCell (p := ⟨w.heap.size, 3, none⟩) (Nat.le_refl _) _).setCell (p := ⟨w.heap.size, 4, none⟩) (Nat.le_refl _) _).setCell (p := ⟨w.heap.size, 5, none⟩) (Nat.le_refl _) _).setCell (p := ⟨w.heap.size, 6, none⟩) (Nat.le_refl _) _).setCell (p := ⟨w.heap.size, 7, none⟩) (Nat.le_refl _) _).setCell (p := ⟨w.heap.size, 8, none⟩) (Nat.le_refl _) _).setCell (p := ⟨w.heap.size, 9, none⟩) (Nat.le_refl _) _).setCell (p := ⟨w.heap.size, 10, none⟩) (Nat.le_refl _) _).setCell (p := ⟨w.heap.size, 11, none⟩) (Nat.le_refl _) _)
    have HOY : OwnB Y w.heap.size (.slice a zs.length cp) zs := by
      rw [hY]
      exact own_sets (HO.out.lowb (by have := ZU.out; omega)) HO.out (by have := ZU.out; omega)
    clear hY
    have g0 := ry.cell 0; have g1 := ry.cell 1; have g2 := ry.cell 2; have g3 := ry.cell 3; have g4 := ry.cell 4; have g5 := ry.cell 5; have g6 := ry.cell 6; have g7 := ry.cell 7; have g8 := ry.cell 8; have g9 := ry.cell 9; have g10 := ry.cell 10; have g11 := ry.cell 11
    simp only [List.getElem?_cons_zero, List.getElem?_cons_succ] at g0 g1 g2 g3 g4 g5 g6 g7 g8 g9 g10 g11
    refine bodyPost_ret (v := .tuple #[.agg #[.slice a zs.length cp, .int .u8 0, .int .u8 0, .int .u8 0, .int .u8 0, .int .u8 0, .int .u8 0, .int .u8 0, .int .u8 0, .int .i64 (-1), .bool false, .int .i64 0], .int .i64 0]) (by simp only [results, Try.results21]; simp [go_sem, g0, g1, g2, g3, g4, g5, g6, g7, g8, g9, g10, g11]) rfl ?_
    exact ⟨_, rfl, HOY, BY⟩
end Go.Proofs.Ytangjgfjojfcaaa
