/- The bounds of the numbers that explain all pairs: the program's. -/
import Derived.Test.YtihadhbgkjbkeaaDoorPbA
import Derived.Test.YtihadhbgkjbkeaaDoorErr
import Derived.Test.YtihadhbgkjbkeaaDoorHeld
import Derived.OrdersHeld
import Derived.Deep.RegionHeld3
namespace Go.Proofs.YtihadhbgkjbkeaaDoor
open Go.RowKit
set_option linter.unusedVariables false
def okTp (js : List (Int × Int)) (k : Nat) : Prop := ∀ j, j < k → (1 ≤ rd js j ∧ rd js j ≤ 100000) ∧ (0 ≤ rv js j ∧ rv js j ≤ 100000)
def okPs (js : List (Int × Int)) : Bool := decide ((1 ≤ js.length ∧ js.length ≤ 60) ∧ ∀ j, j < js.length → (1 ≤ rd js j ∧ rd js j ≤ 100000) ∧ (0 ≤ rv js j ∧ rv js j ≤ 100000))
theorem okPs_len {js : List (Int × Int)} (h : js.length < 1 ∨ 60 < js.length) : okPs js = false := by
  simp only [okPs, decide_eq_false_iff_not]; omega
theorem okPs_bad {js : List (Int × Int)} (k : Nat) (hk : k < js.length) (h : ¬ ((1 ≤ rd js k ∧ rd js k ≤ 100000) ∧ (0 ≤ rv js k ∧ rv js k ≤ 100000))) : okPs js = false := by
  simp only [okPs, decide_eq_false_iff_not]
  exact fun a => h (a.2 k hk)
theorem okPs_yes {js : List (Int × Int)} (h : 1 ≤ js.length ∧ js.length ≤ 60) (h2 : okTp js js.length) : okPs js = true := by
  simp only [okPs, decide_eq_true_eq]
  exact ⟨h, h2⟩
theorem okTp_succ {js : List (Int × Int)} {k : Nat} (h : okTp js k) (h2 : (1 ≤ rd js k ∧ rd js k ≤ 100000) ∧ (0 ≤ rv js k ∧ rv js k ≤ 100000)) : okTp js (k + 1) := fun j hj => by
  by_cases e : j = k
  · subst e; exact h2
  · exact h j (by omega)
def exP (x y : Int) : Int × Int × Int × Int := (redP y x, redQ y x, redP (y + 1) x, redQ (y + 1) x)
def mtP (B C : Int × Int × Int × Int) : Int × Int × Int × Int := ((mtL B.1 B.2.1 C.1 C.2.1).1, (mtL B.1 B.2.1 C.1 C.2.1).2, (mtH B.2.2.1 B.2.2.2 C.2.2.1 C.2.2.2).1, (mtH B.2.2.1 B.2.2.2 C.2.2.1 C.2.2.2).2)
/-- the bounds of the pairs up to the k-th -/
def bnd (js : List (Int × Int)) : Nat → Int × Int × Int × Int
  | 0 => exP (rd js 0) (rv js 0)
  | k + 1 => mtP (bnd js k) (exP (rd js (k + 1)) (rv js (k + 1)))
def inP4 (B : Int × Int × Int × Int) : Prop := ((0 ≤ B.1 ∧ B.1 ≤ 100001) ∧ (1 ≤ B.2.1 ∧ B.2.1 ≤ 100000)) ∧ ((0 ≤ B.2.2.1 ∧ B.2.2.1 ≤ 100001) ∧ (1 ≤ B.2.2.2 ∧ B.2.2.2 ≤ 100000))
theorem exP_in {x y : Int} (h : (1 ≤ x ∧ x ≤ 100000) ∧ (0 ≤ y ∧ y ≤ 100000)) : inP4 (exP x y) := by
  have a := red0_bd (p := y) (q := x) (by omega) (by omega)
  have b := red0_bd (p := y + 1) (q := x) (by omega) (by omega)
  simp only [inP4, exP]
  omega
theorem mtP_in {B C : Int × Int × Int × Int} (h : inP4 B) (k : inP4 C) : inP4 (mtP B C) := by
  obtain ⟨h1, h2⟩ := h
  obtain ⟨k1, k2⟩ := k
  refine ⟨?_, ?_⟩
  · simp only [mtP, mtL]
    split
    · exact k1
    · exact h1
  · simp only [mtP, mtH]
    split
    · exact k2
    · exact h2
theorem bnd_in {js : List (Int × Int)} : ∀ k, okTp js (k + 1) → inP4 (bnd js k)
  | 0, h => exP_in (h 0 (by omega))
  | k + 1, h => mtP_in (bnd_in k (fun j hj => h j (by omega))) (exP_in (h (k + 1) (by omega)))
theorem mul4_bd {a b : Int} (ha : 0 ≤ a ∧ a ≤ 100001) (hb : 1 ≤ b ∧ b ≤ 100000) : 0 ≤ a * b ∧ a * b ≤ 9000000000000000000 := by
  have h1 := Int.mul_nonneg ha.1 (show 0 ≤ b by omega)
  have h2 := Int.mul_le_mul ha.2 hb.2 (by omega) (by omega)
  omega
theorem meetP_any (B C : Int × Int × Int × Int) (hB : inP4 B) (hC : inP4 C) (w : World) :
    Calls Tryd.prog 21 #[.agg #[.int .i64 B.1, .int .i64 B.2.1, .int .i64 B.2.2.1, .int .i64 B.2.2.2], .agg #[.int .i64 C.1, .int .i64 C.2.1, .int .i64 C.2.2.1, .int .i64 C.2.2.2], .func (.func 18) #[] #[]] w (GivesB w (.agg #[.int .i64 (mtP B C).1, .int .i64 (mtP B C).2.1, .int .i64 (mtP B C).2.2.1, .int .i64 (mtP B C).2.2.2])) := by
  have p1 := mul4_bd hC.1.1 hB.1.2
  have p2 := mul4_bd hB.1.1 hC.1.2
  have p3 := mul4_bd hC.2.1 hB.2.2
  have p4 := mul4_bd hB.2.1 hC.2.2
  exact meet_any _ _ _ _ _ _ _ _ p1.1 p1.2 p2.1 p2.2 p3.1 p3.2 p4.1 p4.2 w
def pbR (js : List (Int × Int)) : (Int × Int × Int × Int) × Int := if okPs js then (if (bnd js (js.length - 1)).1 * (bnd js (js.length - 1)).2.2.2 < (bnd js (js.length - 1)).2.2.1 * (bnd js (js.length - 1)).2.1 then (bnd js (js.length - 1), 0) else ((0, 0, 0, 0), 6)) else ((0, 0, 0, 0), 2)
theorem pbR_no {js : List (Int × Int)} (h : okPs js = false) : pbR js = ((0, 0, 0, 0), 2) := by simp [pbR, h]
def PbV (r : (Int × Int × Int × Int) × Int) : Value := .tuple #[.agg #[.int .i64 r.1.1, .int .i64 r.1.2.1, .int .i64 r.1.2.2.1, .int .i64 r.1.2.2.2], errV r.2]
theorem pbR_end {js : List (Int × Int)} {q : Nat} (hn : q + 1 = js.length) (h60 : q + 1 ≤ 60) (h : okTp js (q + 1)) {a b c d : Int} (hB : bnd js q = (a, b, c, d)) : (a * d < c * b → PbV (pbR js) = .tuple #[.agg #[.int .i64 a, .int .i64 b, .int .i64 c, .int .i64 d], .nilIface]) ∧ (¬ a * d < c * b → PbV (pbR js) = .tuple #[.agg #[.int .i64 0, .int .i64 0, .int .i64 0, .int .i64 0], .iface 48 (.int .i64 6)]) := by
  have hq : js.length - 1 = q := by omega
  have ho := okPs_yes (js := js) (by omega) (by rw [← hn]; exact h)
  constructor
  · intro hlt
    have : pbR js = ((a, b, c, d), 0) := by simp only [pbR, ho, if_true, hq, hB, if_pos hlt]
    rw [this]; rfl
  · intro hlt
    have : pbR js = ((0, 0, 0, 0), 6) := by simp only [pbR, ho, if_true, hq, hB, if_neg hlt]
    rw [this]; rfl
set_option maxRecDepth 100000 in
set_option maxHeartbeats 2000000 in
theorem portionBounds_any (b n cap : Nat) (js : List (Int × Int)) (w : World) (hS : Rst w b js) (hn : n = js.length) (hcap : n ≤ cap) :
    Calls Tryd.prog 11 #[.slice (some ⟨b, 0, none⟩) n cap] w (GivesB w (PbV (pbR js))) := by
  have hle := hS.2.2
  rw [← hn] at hle
  have hbl := hS.1
  have hC := hid hS.2.1
  have hN := hid hn
  have bE : Below w.heap.size w (w.alloc (.cells #[.int .i64 0, .int .i64 0, .int .i64 0, .int .i64 0] 35)) := (Below.refl _ w).alloc (Nat.le_refl _) _
  have BE := hid bE
  have R0 := hid (Row.new w 35 [.int .i64 0, .int .i64 0, .int .i64 0, .int .i64 0])
  by_cases hr : n < 1 ∨ 60 < n
  · have HP := hid (show PbV (pbR js) = .tuple #[.agg #[.int .i64 0, .int .i64 0, .int .i64 0, .int .i64 0], .iface 48 (.int .i64 2)] by rw [pbR_no (okPs_len (by omega))]; rfl)
    by_cases h1 : n < 1
    · obtain rfl : n = 0 := by omega
      clear hS hn hr h1 bE
      go_enter Tryd.func11, Tryd.ntmps11
      go_wp2_with fail
      exact bodyPost_ret (v := .tuple #[.agg #[.int .i64 0, .int .i64 0, .int .i64 0, .int .i64 0], .iface 48 (.int .i64 2)]) (by simp [results, Tryd.results11, go_sem]) rfl ⟨by rw [HP.out], BE.out⟩
    · have h2 : 60 < n := by omega
      have h3 : (60 : Int) < (n : Int) := by omega
      have h4 : ¬ (n : Int) < 1 := by omega
      clear hS hn hr h1 bE
      go_enter Tryd.func11, Tryd.ntmps11
      go_wp2_with fail
      exact bodyPost_ret (v := .tuple #[.agg #[.int .i64 0, .int .i64 0, .int .i64 0, .int .i64 0], .iface 48 (.int .i64 2)]) (by simp [results, Tryd.results11, go_sem]) rfl ⟨by rw [HP.out], BE.out⟩
  · have n1 : 1 ≤ n := by omega
    have n60 : n ≤ 60 := by omega
    have m1 : ¬ (n : Int) < 1 := by omega
    have m2 : ¬ (60 : Int) < (n : Int) := by omega
    clear hS hn hr bE
    go_enter Tryd.func11, Tryd.ntmps11
    go_wp2_with fail
    go_loopw [21] (fun i wr => ∃ k : Nat, k ≤ n ∧ i = .int .i64 k ∧ okTp js k ∧ Row wr w.heap.size 35 [.int .i64 0, .int .i64 0, .int .i64 0, .int .i64 0] ∧ Below w.heap.size w wr) (fun i _ => n - (intOf i).toNat)
    case atStart => exact ⟨0, Nat.zero_le _, rfl, fun j h => by omega, R0.out, BE.out⟩
    case round =>
      obtain ⟨k, hk, rfl, hok, hrow, hB⟩ := hrel
      have HO := hid hok
      have HR := hid hrow
      have HB := hid hB
      have hzr := hB.size
      by_cases hlt : k < n
      · have hlt' : (k : Int) < (n : Int) := by omega
        have hk0 : (0 : Int) ≤ (k : Int) := by omega
        obtain ⟨c0', c1'⟩ := hC.out k (by rw [← hN.out]; exact hlt)
        have c0 := (hB.cell (p := ⟨b, k * 2, none⟩) hbl).trans c0'
        have c1 := (hB.cell (p := ⟨b, k * 2 + 1, none⟩) hbl).trans c1'
        have HBAD := hid (fun h => okPs_bad (js := js) k (by rw [← hN.out]; exact hlt) h)
        have HT := hid (fun h => okTp_succ (js := js) HO.out h)
        obtain ⟨x, hx⟩ : ∃ x, rd js k = x := ⟨_, rfl⟩
        obtain ⟨y, hy⟩ : ∃ x, rv js k = x := ⟨_, rfl⟩
        rw [hx] at c0 HBAD HT
        rw [hy] at c1 HBAD HT
        have HR1 := hid (hrow.alloc (.cells #[.int .i64 x, .int .i64 y] 26))
        have HB1 := hid (hB.alloc hzr (.cells #[.int .i64 x, .int .i64 y] 26))
        clear c0' c1' hx hy hok hrow hB
        obtain ⟨m, hm⟩ : ∃ m, max x y = m := ⟨_, rfl⟩
        have MX : ∀ w, Sem.run Tryd.prog (Builtin.max_ #[2, 2] 2 #[.int .i64 x, .int .i64 y]) w = .ok (.int .i64 m) w := fun w => by
          have : (if y > x then y else x) = max x y := by split <;> omega
          rw [← hm, ← this]; rfl
        by_cases g1 : x < 1
        · have HP := hid (show PbV (pbR js) = .tuple #[.agg #[.int .i64 0, .int .i64 0, .int .i64 0, .int .i64 0], .iface 48 (.int .i64 2)] by rw [pbR_no (HBAD.out (by omega))]; rfl)
          clear hm
          have r5 := HR1.out
          have k0 := r5.cell 0
          have k1 := r5.cell 1
          have k2 := r5.cell 2
          have k3 := r5.cell 3
          simp only [List.getElem?_cons_zero, List.getElem?_cons_succ] at k0 k1 k2 k3
          have f0 := r5.frozen 0
          have f1 := r5.frozen 1
          have f2 := r5.frozen 2
          have f3 := r5.frozen 3
          have R6 := hid ((((r5.set 0 (.int .i64 0)).set 1 (.int .i64 0)).set 2 (.int .i64 0)).set 3 (.int .i64 0))
          have B6 := hid ((((HB1.out.setCell (p := ⟨w.heap.size, 0, none⟩) (Nat.le_refl _) (.int .i64 0)).setCell (p := ⟨w.heap.size, 1, none⟩) (Nat.le_refl _) (.int .i64 0)).setCell (p := ⟨w.heap.size, 2, none⟩) (Nat.le_refl _) (.int .i64 0)).setCell (p := ⟨w.heap.size, 3, none⟩) (Nat.le_refl _) (.int .i64 0))
          clear r5
          go_wp2_with fail
          (try simp only [Exit.inBlock, Exit.then])
          have r6 := R6.out
          have q0 := r6.cell 0
          have q1 := r6.cell 1
          have q2 := r6.cell 2
          have q3 := r6.cell 3
          simp only [List.set_cons_zero, List.set_cons_succ, List.getElem?_cons_zero, List.getElem?_cons_succ] at q0 q1 q2 q3
          exact bodyPost_ret (v := .tuple #[.agg #[.int .i64 0, .int .i64 0, .int .i64 0, .int .i64 0], .iface 48 (.int .i64 2)]) (by simp [results, Tryd.results11, go_sem, q0, q1, q2, q3]) rfl ⟨by rw [HP.out], B6.out⟩
        · by_cases g2 : y < 0
          · have HP := hid (show PbV (pbR js) = .tuple #[.agg #[.int .i64 0, .int .i64 0, .int .i64 0, .int .i64 0], .iface 48 (.int .i64 2)] by rw [pbR_no (HBAD.out (by omega))]; rfl)
            clear hm
            have r5 := HR1.out
            have k0 := r5.cell 0
            have k1 := r5.cell 1
            have k2 := r5.cell 2
            have k3 := r5.cell 3
            simp only [List.getElem?_cons_zero, List.getElem?_cons_succ] at k0 k1 k2 k3
            have f0 := r5.frozen 0
            have f1 := r5.frozen 1
            have f2 := r5.frozen 2
            have f3 := r5.frozen 3
            have R6 := hid ((((r5.set 0 (.int .i64 0)).set 1 (.int .i64 0)).set 2 (.int .i64 0)).set 3 (.int .i64 0))
            have B6 := hid ((((HB1.out.setCell (p := ⟨w.heap.size, 0, none⟩) (Nat.le_refl _) (.int .i64 0)).setCell (p := ⟨w.heap.size, 1, none⟩) (Nat.le_refl _) (.int .i64 0)).setCell (p := ⟨w.heap.size, 2, none⟩) (Nat.le_refl _) (.int .i64 0)).setCell (p := ⟨w.heap.size, 3, none⟩) (Nat.le_refl _) (.int .i64 0))
            clear r5
            go_wp2_with fail
            (try simp only [Exit.inBlock, Exit.then])
            have r6 := R6.out
            have q0 := r6.cell 0
            have q1 := r6.cell 1
            have q2 := r6.cell 2
            have q3 := r6.cell 3
            simp only [List.set_cons_zero, List.set_cons_succ, List.getElem?_cons_zero, List.getElem?_cons_succ] at q0 q1 q2 q3
            exact bodyPost_ret (v := .tuple #[.agg #[.int .i64 0, .int .i64 0, .int .i64 0, .int .i64 0], .iface 48 (.int .i64 2)]) (by simp [results, Tryd.results11, go_sem, q0, q1, q2, q3]) rfl ⟨by rw [HP.out], B6.out⟩
          · by_cases g3 : 100000 < m
            · have HP := hid (show PbV (pbR js) = .tuple #[.agg #[.int .i64 0, .int .i64 0, .int .i64 0, .int .i64 0], .iface 48 (.int .i64 2)] by rw [pbR_no (HBAD.out (by omega))]; rfl)
              clear hm
              have r5 := HR1.out
              have k0 := r5.cell 0
              have k1 := r5.cell 1
              have k2 := r5.cell 2
              have k3 := r5.cell 3
              simp only [List.getElem?_cons_zero, List.getElem?_cons_succ] at k0 k1 k2 k3
              have f0 := r5.frozen 0
              have f1 := r5.frozen 1
              have f2 := r5.frozen 2
              have f3 := r5.frozen 3
              have R6 := hid ((((r5.set 0 (.int .i64 0)).set 1 (.int .i64 0)).set 2 (.int .i64 0)).set 3 (.int .i64 0))
              have B6 := hid ((((HB1.out.setCell (p := ⟨w.heap.size, 0, none⟩) (Nat.le_refl _) (.int .i64 0)).setCell (p := ⟨w.heap.size, 1, none⟩) (Nat.le_refl _) (.int .i64 0)).setCell (p := ⟨w.heap.size, 2, none⟩) (Nat.le_refl _) (.int .i64 0)).setCell (p := ⟨w.heap.size, 3, none⟩) (Nat.le_refl _) (.int .i64 0))
              clear r5
              go_wp2_with fail
              (try simp only [Exit.inBlock, Exit.then])
              have r6 := R6.out
              have q0 := r6.cell 0
              have q1 := r6.cell 1
              have q2 := r6.cell 2
              have q3 := r6.cell 3
              simp only [List.set_cons_zero, List.set_cons_succ, List.getElem?_cons_zero, List.getElem?_cons_succ] at q0 q1 q2 q3
              exact bodyPost_ret (v := .tuple #[.agg #[.int .i64 0, .int .i64 0, .int .i64 0, .int .i64 0], .iface 48 (.int .i64 2)]) (by simp [results, Tryd.results11, go_sem, q0, q1, q2, q3]) rfl ⟨by rw [HP.out], B6.out⟩
            · have HT2 := hid (HT.out (by omega))
              clear hm
              go_wp2_with fail
              go_roundw
              case rel => exact ⟨k + 1, by omega, by go_num, HT2.out, HR1.out, HB1.out⟩
              case measure => simp [intOf]; omega
      · obtain rfl : k = n := by omega
        have hokn := hok
        obtain ⟨q, hq⟩ : ∃ q, k = q + 1 := ⟨k - 1, by omega⟩
        obtain ⟨c0', c1'⟩ := hC.out 0 (by rw [← hN.out]; omega)
        have c0 : wr.cell? ⟨b, 0, none⟩ = some (.int .i64 (rd js 0)) := (hB.cell (p := ⟨b, 0, none⟩) hbl).trans c0'
        have c1 : wr.cell? ⟨b, 1, none⟩ = some (.int .i64 (rv js 0)) := (hB.cell (p := ⟨b, 1, none⟩) hbl).trans c1'
        obtain ⟨⟨o1, o2⟩, o3, o4⟩ := hok 0 (by omega)
        obtain ⟨⟨a0, b0, d0, h0⟩, hE0⟩ : ∃ B, exP (rd js 0) (rv js 0) = B := ⟨_, rfl⟩
        have e1 : redP (rv js 0) (rd js 0) = a0 := congrArg (fun B => B.1) hE0
        have e2 : redQ (rv js 0) (rd js 0) = b0 := congrArg (fun B => B.2.1) hE0
        have e3 : redP (rv js 0 + 1) (rd js 0) = d0 := congrArg (fun B => B.2.2.1) hE0
        have e4 : redQ (rv js 0 + 1) (rd js 0) = h0 := congrArg (fun B => B.2.2.2) hE0
        have HE := hid (fun w => explaining_any (rd js 0) (rv js 0) o1 o2 o3 o4 w)
        rw [e1, e2, e3, e4] at HE
        have HE0 := hid (show bnd js 0 = (a0, b0, d0, h0) from hE0)
        clear e1 e2 e3 e4 hE0
        have hk1 : (1 : Int) ≤ (k : Int) := by omega
        subst hq
        have HOK := hid hok
        have hkc : (q : Int) + 1 ≤ (cap : Int) := by omega
        have hqc : ((q + 1 : Nat) : Int) = (q : Int) + 1 := by omega
        clear hok hokn hrow hB c0' c1' o1 o2 o3 o4
        go_wp2_with fail
        refine (HE.out _).mono ?_
        rintro e w1 ⟨rfl, hB1⟩
        have R1 := hid (HR.out.below hB1 HR.out.lt)
        have B1 := hid (HB.out.trans (hB1.mono hzr))
        have hz1 := B1.out.size
        have hg1 := R1.out.lt
        have HT0 : Hid (Row (w1.alloc (.cells #[.int .i64 a0, .int .i64 b0, .int .i64 d0, .int .i64 h0] 35)) w1.heap.size 35 [.int .i64 a0, .int .i64 b0, .int .i64 d0, .int .i64 h0]) := hid (Row.new _ _ _)
        have HR0 := hid (R1.out.alloc (.cells #[.int .i64 a0, .int .i64 b0, .int .i64 d0, .int .i64 h0] 35))
        have HB0 := hid (B1.out.alloc hz1 (.cells #[.int .i64 a0, .int .i64 b0, .int .i64 d0, .int .i64 h0] 35))
        clear c0 c1 hB1
        by_cases hq0 : q = 0
        · subst hq0
          go_wp2_with fail
          all_goals
            refine wp_loop_rounds 1 ?_
            rw [rounds_succ]
            go_wp2_with fail
            have hbe := HE0.out
            have hin := bnd_in (js := js) 0 HOK.out
            have HPE := pbR_end (js := js) (q := 0) hN.out n60 HOK.out hbe
            rw [hbe] at hin
            obtain ⟨⟨i1, i2⟩, i3, i4⟩ := hin
            have p1 := mul4_bd i1 i4
            have p2 := mul4_bd i3 i2
            have HC := hid (fun w => compareP_any a0 b0 d0 h0 p1.1 p1.2 p2.1 p2.2 w)
            (try simp only at HC)
            have r5 := HT0.out
            have k0 := r5.cell 0
            have k1 := r5.cell 1
            have k2 := r5.cell 2
            have k3 := r5.cell 3
            simp only [List.getElem?_cons_zero, List.getElem?_cons_succ] at k0 k1 k2 k3
            by_cases hc : a0 * h0 < d0 * b0
            · have HP := hid (HPE.1 hc)
              have hv : cmp3 (a0 * h0) (d0 * b0) = -1 := if_pos hc
              rw [hv] at HC
              clear hc hv p1 p2 HPE i1 i2 i3 i4 hbe r5
              refine (HC.out _).mono ?_
              rintro e z ⟨rfl, hZ⟩
              have s5 := (HT0.out).below hZ (HT0.out).lt
              have s6 := (HR0.out).below hZ (HR0.out).lt
              have b7 := (HB0.out).trans (hZ.mono (HB0.out).size)
              have x0 := s5.cell 0
              have x1 := s5.cell 1
              have x2 := s5.cell 2
              have x3 := s5.cell 3
              have y0 := s6.cell 0
              have y1 := s6.cell 1
              have y2 := s6.cell 2
              have y3 := s6.cell 3
              simp only [List.getElem?_cons_zero, List.getElem?_cons_succ] at x0 x1 x2 x3 y0 y1 y2 y3
              have f0 := s6.frozen 0
              have f1 := s6.frozen 1
              have f2 := s6.frozen 2
              have f3 := s6.frozen 3
              have R6 := hid ((((s6.set 0 (.int .i64 a0)).set 1 (.int .i64 b0)).set 2 (.int .i64 d0)).set 3 (.int .i64 h0))
              have B6 := hid ((((b7.setCell (p := ⟨w.heap.size, 0, none⟩) (Nat.le_refl _) (.int .i64 a0)).setCell (p := ⟨w.heap.size, 1, none⟩) (Nat.le_refl _) (.int .i64 b0)).setCell (p := ⟨w.heap.size, 2, none⟩) (Nat.le_refl _) (.int .i64 d0)).setCell (p := ⟨w.heap.size, 3, none⟩) (Nat.le_refl _) (.int .i64 h0))
              clear s5 s6 b7 hZ k0 k1 k2 k3
              go_wp2_with fail
              (try simp only [Exit.inBlock, Exit.then])
              have r6 := R6.out
              have q0 := r6.cell 0
              have q1 := r6.cell 1
              have q2 := r6.cell 2
              have q3 := r6.cell 3
              simp only [List.set_cons_zero, List.set_cons_succ, List.getElem?_cons_zero, List.getElem?_cons_succ] at q0 q1 q2 q3
              exact bodyPost_ret (v := .tuple #[.agg #[.int .i64 a0, .int .i64 b0, .int .i64 d0, .int .i64 h0], .nilIface]) (by simp [results, Tryd.results11, go_sem, q0, q1, q2, q3]) rfl ⟨by rw [HP.out], B6.out⟩
            · have HP := hid (HPE.2 hc)
              obtain ⟨v, hv⟩ : ∃ v, cmp3 (a0 * h0) (d0 * b0) = v := ⟨_, rfl⟩
              have hv0 : 0 ≤ v := by rw [← hv]; unfold cmp3; rw [if_neg hc]; split <;> omega
              rw [hv] at HC
              clear hc hv p1 p2 HPE i1 i2 i3 i4 hbe r5
              refine (HC.out _).mono ?_
              rintro e z ⟨rfl, hZ⟩
              have s6 := (HR0.out).below hZ (HR0.out).lt
              have b7 := (HB0.out).trans (hZ.mono (HB0.out).size)
              have y0 := s6.cell 0
              have y1 := s6.cell 1
              have y2 := s6.cell 2
              have y3 := s6.cell 3
              simp only [List.getElem?_cons_zero, List.getElem?_cons_succ] at y0 y1 y2 y3
              have f0 := s6.frozen 0
              have f1 := s6.frozen 1
              have f2 := s6.frozen 2
              have f3 := s6.frozen 3
              have R6 := hid ((((s6.set 0 (.int .i64 0)).set 1 (.int .i64 0)).set 2 (.int .i64 0)).set 3 (.int .i64 0))
              have B6 := hid ((((b7.setCell (p := ⟨w.heap.size, 0, none⟩) (Nat.le_refl _) (.int .i64 0)).setCell (p := ⟨w.heap.size, 1, none⟩) (Nat.le_refl _) (.int .i64 0)).setCell (p := ⟨w.heap.size, 2, none⟩) (Nat.le_refl _) (.int .i64 0)).setCell (p := ⟨w.heap.size, 3, none⟩) (Nat.le_refl _) (.int .i64 0))
              clear s6 b7 hZ k0 k1 k2 k3
              go_wp2_with fail
              (try simp only [Exit.inBlock, Exit.then])
              have r6 := R6.out
              have q0 := r6.cell 0
              have q1 := r6.cell 1
              have q2 := r6.cell 2
              have q3 := r6.cell 3
              simp only [List.set_cons_zero, List.set_cons_succ, List.getElem?_cons_zero, List.getElem?_cons_succ] at q0 q1 q2 q3
              exact bodyPost_ret (v := .tuple #[.agg #[.int .i64 0, .int .i64 0, .int .i64 0, .int .i64 0], .iface 48 (.int .i64 6)]) (by simp [results, Tryd.results11, go_sem, q0, q1, q2, q3]) rfl ⟨by rw [HP.out], B6.out⟩
        · have hcap1 : ¬ cap = 1 := by omega
          have hq1 : (1 : Int) ≤ (q : Int) := by omega
          clear hq0
          go_wp2_with fail
          go_loopw [51] (fun i wr => ∃ t : Nat, t ≤ q ∧ i = .int .i64 t ∧ Row wr w1.heap.size 35 [.int .i64 (bnd js t).1, .int .i64 (bnd js t).2.1, .int .i64 (bnd js t).2.2.1, .int .i64 (bnd js t).2.2.2] ∧ Row wr w.heap.size 35 [.int .i64 0, .int .i64 0, .int .i64 0, .int .i64 0] ∧ Below w.heap.size w wr) (fun i _ => q - (intOf i).toNat)
          case atStart => exact ⟨0, Nat.zero_le _, rfl, by rw [HE0.out]; exact HT0.out, HR0.out, HB0.out⟩
          case round =>
            clear HT0 HR0 HB0
            obtain ⟨t, ht, rfl, hT, hR, hB⟩ := hrel
            have hzr2 := hB.size
            have lT := hT.lt
            by_cases hlt2 : t < q
            · have hlt3 : (t : Int) < (q : Int) := by omega
              have ht0 : (0 : Int) ≤ (t : Int) := by omega
              obtain ⟨c0', c1'⟩ := hC.out (t + 1) (by rw [← hN.out]; omega)
              have hok1 := HOK.out (t + 1) (by omega)
              have hin := bnd_in (js := js) t (fun j hj => HOK.out j (by omega))
              have HE2 := hid (fun w => explaining_any (rd js (t + 1)) (rv js (t + 1)) hok1.1.1 hok1.1.2 hok1.2.1 hok1.2.2 w)
              have HM2 := hid (fun w => meetP_any (bnd js t) (exP (rd js (t + 1)) (rv js (t + 1))) hin (exP_in hok1) w)
              have HST : Hid (bnd js (t + 1) = mtP (bnd js t) (exP (rd js (t + 1)) (rv js (t + 1)))) := hid rfl
              rw [show (t + 1) * 2 = 2 + t * 2 by omega] at c0' c1'
              have c0 := (hB.cell (p := ⟨b, 2 + t * 2, none⟩) hbl).trans c0'
              have c1 := (hB.cell (p := ⟨b, 2 + t * 2 + 1, none⟩) hbl).trans c1'
              obtain ⟨x, hx⟩ : ∃ x, rd js (t + 1) = x := ⟨_, rfl⟩
              obtain ⟨y, hy⟩ : ∃ x, rv js (t + 1) = x := ⟨_, rfl⟩
              rw [hx] at c0 HE2 HM2 HST
              rw [hy] at c1 HE2 HM2 HST
              obtain ⟨C, hCe⟩ : ∃ C, exP x y = C := ⟨_, rfl⟩
              have HE3 : Hid (∀ w, Calls Tryd.prog 20 #[.agg #[.int .i64 x, .int .i64 y]] w (GivesB w (.agg #[.int .i64 C.1, .int .i64 C.2.1, .int .i64 C.2.2.1, .int .i64 C.2.2.2]))) := hid (by rw [← hCe]; exact HE2.out)
              rw [hCe] at HM2 HST
              obtain ⟨⟨a, a2, a3, a4⟩, hBe⟩ : ∃ B, bnd js t = B := ⟨_, rfl⟩
              rw [hBe] at HM2 HST hT
              obtain ⟨⟨m, m2, m3, m4⟩, hMe⟩ : ∃ B, mtP (a, a2, a3, a4) C = B := ⟨_, rfl⟩
              rw [hMe] at HM2 HST
              obtain ⟨e, e2, e3, e4⟩ := C
              simp only at hT HM2 HE3
              have T0 := hid (hT.alloc (.cells #[.int .i64 x, .int .i64 y] 26))
              have RR0 := hid (hR.alloc (.cells #[.int .i64 x, .int .i64 y] 26))
              have BB0 := hid (hB.alloc hzr2 (.cells #[.int .i64 x, .int .i64 y] 26))
              have X0 := hid (Row.new wr 26 [.int .i64 x, .int .i64 y])
              clear c0' c1' hok1 hin hx hy hCe hBe hMe hT hR hB HE2
              go_wp2_with fail
              obtain ⟨V, hV⟩ : ∃ V, V = wr.alloc (.cells #[.int .i64 x, .int .i64 y] 26) := ⟨_, rfl⟩
              rw [← hV] at T0 RR0 BB0 X0 ⊢
              clear hV c0 c1
              have TT := hid (T0.out.below (Below.refl V.heap.size V).drew T0.out.lt)
              have RRR := hid (RR0.out.below (Below.refl V.heap.size V).drew RR0.out.lt)
              have BBB := hid (BB0.out.drew)
              refine wp_region_held (S := (fun W' : World => Row W' wr.heap.size 26 [.int .i64 x, .int .i64 y])) (by kernel_rfl) ?_
              change wpAnyH _ _ _ _ _ _ _ _ (World.drew _)
              have hS0 : (fun W' : World => Row W' wr.heap.size 26 [.int .i64 x, .int .i64 y]) V.drew := X0.out.below (Below.refl V.heap.size V).drew X0.out.lt
              have hne : wr.heap.size ≠ w1.heap.size := by omega
              refine wpAnyH_takeD (some 56) (i := 1) (v := ?_) rfl rfl (by kernel_rfl) (by kernel_rfl) (by kernel_rfl) (fun _ _ _ h => h) (.inl ⟨by kernel_rfl, ?_⟩) hS0 ?_
              rotate_left
              · intro w' hw'; have f0 := hw'.cell 0; have f1 := hw'.cell 1; simp only [List.getElem?_cons_zero, List.getElem?_cons_succ] at f0 f1; clear hw'; go_simp; try with_reducible rfl
              try simp only [Act.put, List.setIfInBounds_toArray, List.set_cons_zero, List.set_cons_succ]
              refine wpAnyH_all (rs := [0, 2]) (by kernel_rfl) (by simp) ?_
              intro i hi
              have hi2 : i = 0 ∨ i = 2 := by simpa using hi
              clear hi
              rcases hi2 with rfl | rfl
              · refine wpOp_step rfl (fun K hK => ?_)
                have f0 := TT.out.cell 0
                have f1 := TT.out.cell 1
                have f2 := TT.out.cell 2
                have f3 := TT.out.cell 3
                simp only [List.getElem?_cons_zero, List.getElem?_cons_succ] at f0 f1 f2 f3
                go_simp
                clear f0 f1 f2 f3
                refine hK _ _ ⟨hS0, ?_⟩
                try simp only [Act.put, List.setIfInBounds_toArray, List.set_cons_zero, List.set_cons_succ]
                refine wpAnyH_all (rs := [2]) (by kernel_rfl) (by simp) ?_
                intro i hi; simp only [List.mem_singleton] at hi; subst hi
                refine wpOp_step rfl (fun K hK => ?_)
                go_simp
                with_reducible refine (HE3.out _).mono ?_
                rintro e v2 ⟨rfl, hD⟩
                have hS1 := hS0.below hD hS0.lt
                have TT2 := hid (TT.out.below hD TT.out.lt)
                have RR2 := hid (RRR.out.below hD RRR.out.lt)
                have BB2 := hid (BBB.out.trans (hD.mono BBB.out.size))
                refine hK _ _ ⟨hS1, ?_⟩
                try simp only [Act.put, List.setIfInBounds_toArray, List.set_cons_zero, List.set_cons_succ]
                clear hD
                refine wpAnyH_all (rs := [3]) (by kernel_rfl) (by simp) ?_
                intro i hi; simp only [List.mem_singleton] at hi; subst hi
                refine wpOp_step rfl (fun K hK => ?_)
                go_simp
                with_reducible refine (HM2.out _).mono ?_
                rintro e v3 ⟨rfl, hD⟩
                have hS2 := hS1.below hD hS1.lt
                have TT3 := TT2.out.below hD TT2.out.lt
                have RR3 := RR2.out.below hD RR2.out.lt
                have BB3 := BB2.out.trans (hD.mono BB2.out.size)
                refine hK _ _ ⟨hS2, ?_⟩
                try simp only [Act.put, List.setIfInBounds_toArray, List.set_cons_zero, List.set_cons_succ]
                have f0 := TT3.cell 0
                have f1 := TT3.cell 1
                have f2 := TT3.cell 2
                have f3 := TT3.cell 3
                simp only [List.getElem?_cons_zero, List.getElem?_cons_succ] at f0 f1 f2 f3
                have g0 := TT3.frozen 0
                have g1 := TT3.frozen 1
                have g2 := TT3.frozen 2
                have g3 := TT3.frozen 3
                have TT4 := hid ((((TT3.set 0 (.int .i64 m)).set 1 (.int .i64 m2)).set 2 (.int .i64 m3)).set 3 (.int .i64 m4))
                have RR4 := hid (((((RR3.other (a := ⟨w1.heap.size, 0, none⟩) (by show w1.heap.size ≠ w.heap.size; omega) (.int .i64 m)).other (a := ⟨w1.heap.size, 1, none⟩) (by show w1.heap.size ≠ w.heap.size; omega) (.int .i64 m2)).other (a := ⟨w1.heap.size, 2, none⟩) (by show w1.heap.size ≠ w.heap.size; omega) (.int .i64 m3)).other (a := ⟨w1.heap.size, 3, none⟩) (by show w1.heap.size ≠ w.heap.size; omega) (.int .i64 m4)))
                have XX4 := hid (((((hS2.other (a := ⟨w1.heap.size, 0, none⟩) (by show w1.heap.size ≠ wr.heap.size; omega) (.int .i64 m)).other (a := ⟨w1.heap.size, 1, none⟩) (by show w1.heap.size ≠ wr.heap.size; omega) (.int .i64 m2)).other (a := ⟨w1.heap.size, 2, none⟩) (by show w1.heap.size ≠ wr.heap.size; omega) (.int .i64 m3)).other (a := ⟨w1.heap.size, 3, none⟩) (by show w1.heap.size ≠ wr.heap.size; omega) (.int .i64 m4)))
                have BB4 := hid (((((BB3.setCell (p := ⟨w1.heap.size, 0, none⟩) hz1 (.int .i64 m)).setCell (p := ⟨w1.heap.size, 1, none⟩) hz1 (.int .i64 m2)).setCell (p := ⟨w1.heap.size, 2, none⟩) hz1 (.int .i64 m3)).setCell (p := ⟨w1.heap.size, 3, none⟩) hz1 (.int .i64 m4)))
                clear TT3 RR3 BB3 hD
                refine wpAnyH_all (rs := [4]) (by kernel_rfl) (by simp) ?_
                intro i hi; simp only [List.mem_singleton] at hi; subst hi
                refine wpOp_step rfl (fun K hK => ?_)
                go_simp
                refine hK _ _ ⟨XX4.out, ?_⟩
                try simp only [Act.put, List.setIfInBounds_toArray, List.set_cons_zero, List.set_cons_succ]
                clear f0 f1 f2 f3 g0 g1 g2 g3
                refine wpAnyH_done (by kernel_rfl) ?_ _
                go_wp2_with fail
                go_roundw
                case rel => exact ⟨t + 1, by omega, by go_num, by rw [HST.out]; exact TT4.out, RR4.out, BB4.out⟩
                case measure => simp [intOf]; omega
              · refine wpOp_step rfl (fun K hK => ?_)
                go_simp
                with_reducible refine (HE3.out _).mono ?_
                rintro e v2 ⟨rfl, hD⟩
                have hS1 := hS0.below hD hS0.lt
                have TT2 := hid (TT.out.below hD TT.out.lt)
                have RR2 := hid (RRR.out.below hD RRR.out.lt)
                have BB2 := hid (BBB.out.trans (hD.mono BBB.out.size))
                refine hK _ _ ⟨hS1, ?_⟩
                try simp only [Act.put, List.setIfInBounds_toArray, List.set_cons_zero, List.set_cons_succ]
                clear hD
                refine wpAnyH_all (rs := [0]) (by kernel_rfl) (by simp) ?_
                intro i hi; simp only [List.mem_singleton] at hi; subst hi
                refine wpOp_step rfl (fun K hK => ?_)
                have f0 := TT2.out.cell 0
                have f1 := TT2.out.cell 1
                have f2 := TT2.out.cell 2
                have f3 := TT2.out.cell 3
                simp only [List.getElem?_cons_zero, List.getElem?_cons_succ] at f0 f1 f2 f3
                go_simp
                clear f0 f1 f2 f3
                refine hK _ _ ⟨hS1, ?_⟩
                try simp only [Act.put, List.setIfInBounds_toArray, List.set_cons_zero, List.set_cons_succ]
                refine wpAnyH_all (rs := [3]) (by kernel_rfl) (by simp) ?_
                intro i hi; simp only [List.mem_singleton] at hi; subst hi
                refine wpOp_step rfl (fun K hK => ?_)
                go_simp
                with_reducible refine (HM2.out _).mono ?_
                rintro e v3 ⟨rfl, hD⟩
                have hS2 := hS1.below hD hS1.lt
                have TT3 := TT2.out.below hD TT2.out.lt
                have RR3 := RR2.out.below hD RR2.out.lt
                have BB3 := BB2.out.trans (hD.mono BB2.out.size)
                refine hK _ _ ⟨hS2, ?_⟩
                try simp only [Act.put, List.setIfInBounds_toArray, List.set_cons_zero, List.set_cons_succ]
                have f0 := TT3.cell 0
                have f1 := TT3.cell 1
                have f2 := TT3.cell 2
                have f3 := TT3.cell 3
                simp only [List.getElem?_cons_zero, List.getElem?_cons_succ] at f0 f1 f2 f3
                have g0 := TT3.frozen 0
                have g1 := TT3.frozen 1
                have g2 := TT3.frozen 2
                have g3 := TT3.frozen 3
                have TT4 := hid ((((TT3.set 0 (.int .i64 m)).set 1 (.int .i64 m2)).set 2 (.int .i64 m3)).set 3 (.int .i64 m4))
                have RR4 := hid (((((RR3.other (a := ⟨w1.heap.size, 0, none⟩) (by show w1.heap.size ≠ w.heap.size; omega) (.int .i64 m)).other (a := ⟨w1.heap.size, 1, none⟩) (by show w1.heap.size ≠ w.heap.size; omega) (.int .i64 m2)).other (a := ⟨w1.heap.size, 2, none⟩) (by show w1.heap.size ≠ w.heap.size; omega) (.int .i64 m3)).other (a := ⟨w1.heap.size, 3, none⟩) (by show w1.heap.size ≠ w.heap.size; omega) (.int .i64 m4)))
                have XX4 := hid (((((hS2.other (a := ⟨w1.heap.size, 0, none⟩) (by show w1.heap.size ≠ wr.heap.size; omega) (.int .i64 m)).other (a := ⟨w1.heap.size, 1, none⟩) (by show w1.heap.size ≠ wr.heap.size; omega) (.int .i64 m2)).other (a := ⟨w1.heap.size, 2, none⟩) (by show w1.heap.size ≠ wr.heap.size; omega) (.int .i64 m3)).other (a := ⟨w1.heap.size, 3, none⟩) (by show w1.heap.size ≠ wr.heap.size; omega) (.int .i64 m4)))
                have BB4 := hid (((((BB3.setCell (p := ⟨w1.heap.size, 0, none⟩) hz1 (.int .i64 m)).setCell (p := ⟨w1.heap.size, 1, none⟩) hz1 (.int .i64 m2)).setCell (p := ⟨w1.heap.size, 2, none⟩) hz1 (.int .i64 m3)).setCell (p := ⟨w1.heap.size, 3, none⟩) hz1 (.int .i64 m4)))
                clear TT3 RR3 BB3 hD
                refine wpAnyH_all (rs := [4]) (by kernel_rfl) (by simp) ?_
                intro i hi; simp only [List.mem_singleton] at hi; subst hi
                refine wpOp_step rfl (fun K hK => ?_)
                go_simp
                refine hK _ _ ⟨XX4.out, ?_⟩
                try simp only [Act.put, List.setIfInBounds_toArray, List.set_cons_zero, List.set_cons_succ]
                clear f0 f1 f2 f3 g0 g1 g2 g3
                refine wpAnyH_done (by kernel_rfl) ?_ _
                go_wp2_with fail
                go_roundw
                case rel => exact ⟨t + 1, by omega, by go_num, by rw [HST.out]; exact TT4.out, RR4.out, BB4.out⟩
                case measure => simp [intOf]; omega
            · obtain rfl : t = q := by omega
              clear hlt2 lT
              obtain ⟨⟨a, a2, a3, a4⟩, hBe⟩ : ∃ B, bnd js t = B := ⟨_, rfl⟩
              rw [hBe] at hT
              simp only at hT
              have HT5 := hid hT
              have HR5 := hid hR
              have HB5 := hid hB
              have HBE := hid hBe
              clear hT hR hB hBe
              have hbe := HBE.out
              have hin := bnd_in (js := js) t HOK.out
              have HPE := pbR_end (js := js) (q := t) hN.out n60 HOK.out hbe
              rw [hbe] at hin
              obtain ⟨⟨i1, i2⟩, i3, i4⟩ := hin
              have p1 := mul4_bd i1 i4
              have p2 := mul4_bd i3 i2
              have HC := hid (fun w => compareP_any a a2 a3 a4 p1.1 p1.2 p2.1 p2.2 w)
              (try simp only at HC)
              have r5 := HT5.out
              have k0 := r5.cell 0
              have k1 := r5.cell 1
              have k2 := r5.cell 2
              have k3 := r5.cell 3
              simp only [List.getElem?_cons_zero, List.getElem?_cons_succ] at k0 k1 k2 k3
              by_cases hc : a * a4 < a3 * a2
              · have HP := hid (HPE.1 hc)
                have hv : cmp3 (a * a4) (a3 * a2) = -1 := if_pos hc
                rw [hv] at HC
                clear hc hv p1 p2 HPE i1 i2 i3 i4 hbe r5
                go_wp2_with fail
                refine (HC.out _).mono ?_
                rintro e z ⟨rfl, hZ⟩
                have s5 := (HT5.out).below hZ (HT5.out).lt
                have s6 := (HR5.out).below hZ (HR5.out).lt
                have b7 := (HB5.out).trans (hZ.mono (HB5.out).size)
                have x0 := s5.cell 0
                have x1 := s5.cell 1
                have x2 := s5.cell 2
                have x3 := s5.cell 3
                have y0 := s6.cell 0
                have y1 := s6.cell 1
                have y2 := s6.cell 2
                have y3 := s6.cell 3
                simp only [List.getElem?_cons_zero, List.getElem?_cons_succ] at x0 x1 x2 x3 y0 y1 y2 y3
                have f0 := s6.frozen 0
                have f1 := s6.frozen 1
                have f2 := s6.frozen 2
                have f3 := s6.frozen 3
                have R6 := hid ((((s6.set 0 (.int .i64 a)).set 1 (.int .i64 a2)).set 2 (.int .i64 a3)).set 3 (.int .i64 a4))
                have B6 := hid ((((b7.setCell (p := ⟨w.heap.size, 0, none⟩) (Nat.le_refl _) (.int .i64 a)).setCell (p := ⟨w.heap.size, 1, none⟩) (Nat.le_refl _) (.int .i64 a2)).setCell (p := ⟨w.heap.size, 2, none⟩) (Nat.le_refl _) (.int .i64 a3)).setCell (p := ⟨w.heap.size, 3, none⟩) (Nat.le_refl _) (.int .i64 a4))
                clear s5 s6 b7 hZ k0 k1 k2 k3
                go_wp2_with fail
                (try simp only [Exit.inBlock, Exit.then])
                have r6 := R6.out
                have q0 := r6.cell 0
                have q1 := r6.cell 1
                have q2 := r6.cell 2
                have q3 := r6.cell 3
                simp only [List.set_cons_zero, List.set_cons_succ, List.getElem?_cons_zero, List.getElem?_cons_succ] at q0 q1 q2 q3
                exact bodyPost_ret (v := .tuple #[.agg #[.int .i64 a, .int .i64 a2, .int .i64 a3, .int .i64 a4], .nilIface]) (by simp [results, Tryd.results11, go_sem, q0, q1, q2, q3]) rfl ⟨by rw [HP.out], B6.out⟩
              · have HP := hid (HPE.2 hc)
                obtain ⟨v, hv⟩ : ∃ v, cmp3 (a * a4) (a3 * a2) = v := ⟨_, rfl⟩
                have hv0 : 0 ≤ v := by rw [← hv]; unfold cmp3; rw [if_neg hc]; split <;> omega
                rw [hv] at HC
                clear hc hv p1 p2 HPE i1 i2 i3 i4 hbe r5
                go_wp2_with fail
                refine (HC.out _).mono ?_
                rintro e z ⟨rfl, hZ⟩
                have s6 := (HR5.out).below hZ (HR5.out).lt
                have b7 := (HB5.out).trans (hZ.mono (HB5.out).size)
                have y0 := s6.cell 0
                have y1 := s6.cell 1
                have y2 := s6.cell 2
                have y3 := s6.cell 3
                simp only [List.getElem?_cons_zero, List.getElem?_cons_succ] at y0 y1 y2 y3
                have f0 := s6.frozen 0
                have f1 := s6.frozen 1
                have f2 := s6.frozen 2
                have f3 := s6.frozen 3
                have R6 := hid ((((s6.set 0 (.int .i64 0)).set 1 (.int .i64 0)).set 2 (.int .i64 0)).set 3 (.int .i64 0))
                have B6 := hid ((((b7.setCell (p := ⟨w.heap.size, 0, none⟩) (Nat.le_refl _) (.int .i64 0)).setCell (p := ⟨w.heap.size, 1, none⟩) (Nat.le_refl _) (.int .i64 0)).setCell (p := ⟨w.heap.size, 2, none⟩) (Nat.le_refl _) (.int .i64 0)).setCell (p := ⟨w.heap.size, 3, none⟩) (Nat.le_refl _) (.int .i64 0))
                clear s6 b7 hZ k0 k1 k2 k3
                go_wp2_with fail
                (try simp only [Exit.inBlock, Exit.then])
                have r6 := R6.out
                have q0 := r6.cell 0
                have q1 := r6.cell 1
                have q2 := r6.cell 2
                have q3 := r6.cell 3
                simp only [List.set_cons_zero, List.set_cons_succ, List.getElem?_cons_zero, List.getElem?_cons_succ] at q0 q1 q2 q3
                exact bodyPost_ret (v := .tuple #[.agg #[.int .i64 0, .int .i64 0, .int .i64 0, .int .i64 0], .iface 48 (.int .i64 6)]) (by simp [results, Tryd.results11, go_sem, q0, q1, q2, q3]) rfl ⟨by rw [HP.out], B6.out⟩
end Go.Proofs.YtihadhbgkjbkeaaDoor
