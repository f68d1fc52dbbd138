/- Stacks that a call has made: compared, written over, looked at. -/
import Derived.Test.YtklkdbfdejabiaaGreatDoorBase
import Derived.OwnWalk
import Derived.Deep.QuietTactic
namespace Go.Proofs.YtklkdbfdejabiaaGreatDoor
open Go.RowKit
/-- v is a slice of the numbers zs, in a block of its own from base on -/
def OwnB (w : World) (base : Nat) (v : Value) (zs : List Int) : Prop :=
  ∃ a cap, v = .slice a zs.length cap ∧ zs.length ≤ 1099511627776 ∧ (zs = [] ∨ ∃ g rest, a = some ⟨g, 0, none⟩ ∧ base ≤ g ∧ Row w g 5 (zs.map (Value.int .u8) ++ rest))
theorem OwnB.of_owns {w : World} {base n : Nat} {v : Value} {zs : List Int} (h : w.ownsRow base 5 1 v n (zs.map (Value.int .u8))) (hl : zs.length ≤ 1099511627776) : OwnB w base v zs := by
  have hn : n = zs.length := by have := h.1; simpa using this.symm
  rcases h.2 with ⟨rfl, h0⟩ | ⟨g, cap, cur, rfl, h2, h3, h4, h5, h6, h7⟩
  · have : zs = [] := List.length_eq_zero_iff.1 (by omega)
    subst this
    exact ⟨none, 0, rfl, by simp, .inl rfl⟩
  · refine ⟨some ⟨g, 0, none⟩, cap, by rw [hn], hl, .inr ⟨g, cur.toList.drop (n * 1), rfl, h2, ?_⟩⟩
    unfold Row
    rw [h3, ← h7, List.take_append_drop]
theorem OwnB.nil (w : World) (base : Nat) (a : Option Addr) (cap : Nat) : OwnB w base (.slice a 0 cap) [] := ⟨a, cap, rfl, by simp, .inl rfl⟩
theorem OwnB.keep {w w' : World} {base : Nat} {v : Value} {zs : List Int} (h : OwnB w base v zs) (hb : Below w.heap.size w w') : OwnB w' base v zs := by
  obtain ⟨a, cap, h1, h2, h3⟩ := h
  refine ⟨a, cap, h1, h2, ?_⟩
  rcases h3 with h0 | ⟨g, rest, e, hg, hr⟩
  · exact .inl h0
  · exact .inr ⟨g, rest, e, hg, hr.below hb hr.lt⟩
/-- what is written from another base on leaves it, if its block lies below -/
theorem OwnB.low {w w' : World} {base k : Nat} {v : Value} {zs : List Int} (h : OwnB w base v zs) {w2 : World} (hw : Below w.heap.size w w2) (hk : w.heap.size ≤ k) (hb : Below k w2 w') : OwnB w' base v zs := by
  obtain ⟨a, cap, h1, h2, h3⟩ := h
  refine ⟨a, cap, h1, h2, ?_⟩
  rcases h3 with h0 | ⟨g, rest, e, hg, hr⟩
  · exact .inl h0
  · exact .inr ⟨g, rest, e, hg, (hr.below hw hr.lt).below hb (Nat.lt_of_lt_of_le hr.lt hk)⟩
theorem OwnB.cell {w : World} {g : Nat} {zs : List Int} {rest : List Value} (h : Row w g 5 (zs.map (Value.int .u8) ++ rest)) (j : Nat) (hj : j < zs.length) : w.cell? ⟨g, j, none⟩ = some (.int .u8 (zs[j]?.getD 0)) := by
  rw [h.cell, List.getElem?_append_left (by simpa using hj)]
  simp [hj]
set_option maxHeartbeats 1000000 in
theorem eqB_own (b1 b2 : Nat) (v1 v2 : Value) (zs : List Int) (w : World) (h1 : OwnB w b1 v1 zs) (h2 : OwnB w b2 v2 zs) :
    Calls Tryz.prog 17 #[v1, v2] w fun e w' => e = .returned (.bool true) ∧ ∃ d, w' = w.drewN d := by
  obtain ⟨a1, c1, rfl, hl, k1⟩ := h1
  obtain ⟨a2, c2, rfl, _, k2⟩ := h2
  have hne : ((zs.length : Int) != (zs.length : Int)) = false := by simp
  rcases k1 with hz | ⟨g1, r1, rfl, _, R1⟩
  · subst hz
    simp only [List.length_nil] at *
    clear k2 hne
    go_enter Tryz.func17, Tryz.ntmps17
    go_wp2_with fail
    refine wp_loop_rounds 1 ?_
    rw [rounds_succ]
    go_wp2_with fail
    go_ret
    exact ⟨rfl, 0, rfl⟩
  · rcases k2 with hz | ⟨g2, r2, rfl, _, R2⟩
    · subst hz
      simp only [List.length_nil] at *
      clear R1 hne
      go_enter Tryz.func17, Tryz.ntmps17
      go_wp2_with fail
      refine wp_loop_rounds 1 ?_
      rw [rounds_succ]
      go_wp2_with fail
      go_ret
      exact ⟨rfl, 0, rfl⟩
    · have C1 := hid (fun j (hj : j < zs.length) => OwnB.cell R1 j hj)
      have C2 := hid (fun j (hj : j < zs.length) => OwnB.cell R2 j hj)
      obtain ⟨n, hn⟩ : ∃ n, zs.length = n := ⟨_, rfl⟩
      rw [hn] at C1 C2 hl hne ⊢
      clear R1 R2 hn
      go_enter Tryz.func17, Tryz.ntmps17
      go_wp2_with fail
      go_loopw [5] (fun i wr => ∃ k : Nat, k ≤ n ∧ i = .int .i64 k ∧ ∃ d, wr = w.drewN d) (fun i _ => n - (intOf i).toNat)
      case atStart => exact ⟨0, Nat.zero_le _, rfl, 0, rfl⟩
      case round =>
        obtain ⟨k, hk, rfl, d, rfl⟩ := hrel
        by_cases hlt : k < n
        · have hx1 := C1.out k hlt
          have hx2 := C2.out k hlt
          have hlt' : (k : Int) < (n : Int) := by omega
          have hk0 : (0 : Int) ≤ (k : Int) := by omega
          obtain ⟨x, hx⟩ : ∃ x, zs[k]?.getD 0 = x := ⟨_, rfl⟩
          rw [hx] at hx1 hx2
          have hb : (x != x) = false := by simp
          clear hx
          go_wp2_with fail
          go_quiet (fail)
          go_wp2_with fail
          go_roundw
          case rel => exact ⟨k + 1, by omega, by go_num, _, rfl⟩
          case measure => simp [intOf]; omega
        · obtain rfl : k = n := by omega
          go_wp2_with fail
          go_ret
          exact ⟨rfl, d, rfl⟩
def m8 (i : Int) : Int := IntKind.u8.wrap i
/-- the marks that are written -/
def marksB (k0 : Int) (n : Nat) : List Int := (List.range n).map fun (i : Nat) => m8 (k0 + (i : Int))
theorem marksB_len (k0 : Int) (n : Nat) : (marksB k0 n).length = n := by simp [marksB]
theorem marksB_get (k0 : Int) (n j : Nat) (h : j < n) : (marksB k0 n)[j]?.getD 0 = m8 (k0 + (j : Int)) := by simp [marksB, h]
/-- k of n cells are marked -/
def halfB (k0 : Int) (zs : List Int) (k : Nat) : List Int := (marksB k0 k) ++ zs.drop k
theorem halfB_len (k0 : Int) (zs : List Int) (k : Nat) (h : k ≤ zs.length) : (halfB k0 zs k).length = zs.length := by simp [halfB, marksB]; omega
theorem halfB_set (k0 : Int) (zs : List Int) (rest : List Value) (k : Nat) (h : k < zs.length) : (((halfB k0 zs k).map (Value.int .u8)) ++ rest).set k (.int .u8 (m8 (k0 + (k : Int)))) = ((halfB k0 zs (k + 1)).map (Value.int .u8)) ++ rest := by
  have hl := halfB_len k0 zs k (by omega)
  rw [List.set_append_left _ _ (by rw [List.length_map, hl]; exact h)]
  congr 1
  apply List.ext_getElem?
  intro j
  simp only [halfB, marksB, List.getElem?_set, List.getElem?_map, List.length_map, List.length_append, List.length_range, List.length_drop, List.getElem?_append, List.getElem?_drop]
  by_cases hj : k = j
  · subst hj
    simp [h]
    omega
  · rw [if_neg hj]
    by_cases h2 : j < k
    · simp [h2, show j < k + 1 from by omega]
    · simp only [h2, show ¬ j < k + 1 from by omega, if_false]
      rw [show k + (j - k) = k + 1 + (j - (k + 1)) from by omega]
theorem halfB_all (k0 : Int) (zs : List Int) : halfB k0 zs zs.length = marksB k0 zs.length := by simp [halfB]
set_option maxHeartbeats 1000000 in
theorem markB_own (base : Nat) (v : Value) (zs : List Int) (w : World) (h : OwnB w base v zs) (hbase : base ≤ w.heap.size) :
    Calls Tryz.prog 19 #[v, .int .i64 1] w fun e w' => e = .returned (.int .i64 (1 + (zs.length : Int))) ∧ OwnB w' base v (marksB 1 zs.length) ∧ Below base w w' ∧ w'.heap.size = w.heap.size := by
  obtain ⟨a, c, rfl, hl, k1⟩ := h
  rcases k1 with hz | ⟨g, rest, rfl, hg, R⟩
  · subst hz
    simp only [List.length_nil]
    go_enter Tryz.func19, Tryz.ntmps19
    go_wp2_with fail
    refine wp_loop_rounds 1 ?_
    rw [rounds_succ]
    go_wp2_with fail
    go_ret
    exact ⟨rfl, OwnB.nil _ _ _ _, Below.refl _ _, rfl⟩
  · obtain ⟨n, hn⟩ : ∃ n, zs.length = n := ⟨_, rfl⟩
    rw [hn] at hl ⊢
    have HN := hid hn
    have R0 : Row w g 5 ((halfB 1 zs 0).map (Value.int .u8) ++ rest) := by simpa [halfB, marksB] using R
    clear hn R
    go_enter Tryz.func19, Tryz.ntmps19
    go_wp2_with fail
    go_loopw [1, 5] (fun m i wr => ∃ k : Nat, k ≤ n ∧ i = .int .i64 k ∧ m = .int .i64 (1 + (k : Int)) ∧ Row wr g 5 ((halfB 1 zs k).map (Value.int .u8) ++ rest) ∧ Below base w wr ∧ wr.heap.size = w.heap.size) (fun _ i _ => n - (intOf i).toNat)
    case atStart => exact ⟨0, Nat.zero_le _, rfl, rfl, R0, Below.refl _ _, rfl⟩
    case round =>
      clear R0
      obtain ⟨k, hk, rfl, rfl, hrow, hB, hsz⟩ := hrel
      have HSZ := hid hsz
      clear hsz
      by_cases hlt : k < n
      · have hlt' : (k : Int) < (n : Int) := by omega
        have hk0 : (0 : Int) ≤ (k : Int) := by omega
        have HS := hid (halfB_set 1 zs rest k (by rw [HN.out]; exact hlt))
        have hfz := hrow.frozen k
        obtain ⟨old, hold⟩ : ∃ u, wr.cell? ⟨g, k, none⟩ = some u := ⟨_, (hrow.cell k).trans (List.getElem?_eq_getElem (by simp only [List.length_append, List.length_map]; rw [halfB_len _ _ _ (by rw [HN.out]; exact hk), HN.out]; omega))⟩
        have R2 := hrow.set k (.int .u8 (m8 (1 + (k : Int))))
        rw [HS.out] at R2
        have R3 := hid R2
        have B2 := hid (hB.setCell (p := ⟨g, k, none⟩) hg (.int .u8 (m8 (1 + (k : Int)))))
        have t1 : IntKind.u8.wrap (1 + (k : Int)) = m8 (1 + (k : Int)) := rfl
        clear R2 hrow hB
        go_wp2_with fail
        go_roundw
        case rel => exact ⟨k + 1, by omega, by go_num, by first | go_num | (congr 1; done) | (congr 1; omega), R3.out, B2.out, by simpa using HSZ.out⟩
        case measure => simp [intOf]; omega
      · obtain rfl : k = n := by omega
        have R3 := hid hrow
        clear hrow
        go_wp2_with fail
        go_ret
        refine ⟨rfl, ⟨some ⟨g, 0, none⟩, c, by rw [marksB_len], by rw [marksB_len]; exact hl, .inr ⟨g, rest, rfl, hg, ?_⟩⟩, hB, HSZ.out⟩
        have := R3.out
        rw [← HN.out, halfB_all] at this
        rw [← HN.out]
        exact this
theorem row_type {w : World} {g : Nat} {T U : TypeId} {xs ys : List Value} (h : Row w g T xs) (k : Row w g U ys) : T = U := by
  unfold Row at h k
  rw [h] at k
  simp only [Option.some.injEq, Obj.cells.injEq] at k
  exact k.2.1
set_option maxHeartbeats 1000000 in
theorem markB_only (base : Nat) (v : Value) (zs : List Int) (w : World) (h : OwnB w base v zs) (hbase : base ≤ w.heap.size) :
    Calls Tryz.prog 19 #[v, .int .i64 1] w fun e w' => e = .returned (.int .i64 (1 + (zs.length : Int))) ∧ OwnB w' base v (marksB 1 zs.length) ∧ Below base w w' ∧ w'.heap.size = w.heap.size ∧ (∀ q T xs, T ≠ 5 → Row w q T xs → Row w' q T xs) := by
  obtain ⟨a, c, rfl, hl, k1⟩ := h
  rcases k1 with hz | ⟨g, rest, rfl, hg, R⟩
  · subst hz
    simp only [List.length_nil]
    go_enter Tryz.func19, Tryz.ntmps19
    go_wp2_with fail
    refine wp_loop_rounds 1 ?_
    rw [rounds_succ]
    go_wp2_with fail
    go_ret
    exact ⟨rfl, OwnB.nil _ _ _ _, Below.refl _ _, rfl, fun _ _ _ _ h => h⟩
  · obtain ⟨n, hn⟩ : ∃ n, zs.length = n := ⟨_, rfl⟩
    rw [hn] at hl ⊢
    have HN := hid hn
    have NEQ := hid (fun q T xs (hT : T ≠ 5) (hr : Row w q T xs) => show q ≠ g from fun e => by subst e; exact hT (row_type hr R))
    have R0 : Row w g 5 ((halfB 1 zs 0).map (Value.int .u8) ++ rest) := by simpa [halfB, marksB] using R
    clear hn R
    go_enter Tryz.func19, Tryz.ntmps19
    go_wp2_with fail
    go_loopw [1, 5] (fun m i wr => ∃ k : Nat, k ≤ n ∧ i = .int .i64 k ∧ m = .int .i64 (1 + (k : Int)) ∧ Row wr g 5 ((halfB 1 zs k).map (Value.int .u8) ++ rest) ∧ Below base w wr ∧ wr.heap.size = w.heap.size ∧ (∀ q, q ≠ g → wr.heap[q]? = w.heap[q]?)) (fun _ i _ => n - (intOf i).toNat)
    case atStart => exact ⟨0, Nat.zero_le _, rfl, rfl, R0, Below.refl _ _, rfl, fun _ _ => rfl⟩
    case round =>
      clear R0
      obtain ⟨k, hk, rfl, rfl, hrow, hB, hsz, hkk⟩ := hrel
      have HSZ := hid hsz
      have HKK := hid hkk
      clear hsz hkk
      by_cases hlt : k < n
      · have hlt' : (k : Int) < (n : Int) := by omega
        have hk0 : (0 : Int) ≤ (k : Int) := by omega
        have HS := hid (halfB_set 1 zs rest k (by rw [HN.out]; exact hlt))
        have hfz := hrow.frozen k
        obtain ⟨old, hold⟩ : ∃ u, wr.cell? ⟨g, k, none⟩ = some u := ⟨_, (hrow.cell k).trans (List.getElem?_eq_getElem (by simp only [List.length_append, List.length_map]; rw [halfB_len _ _ _ (by rw [HN.out]; exact hk), HN.out]; omega))⟩
        have R2 := hrow.set k (.int .u8 (m8 (1 + (k : Int))))
        rw [HS.out] at R2
        have R3 := hid R2
        have B2 := hid (hB.setCell (p := ⟨g, k, none⟩) hg (.int .u8 (m8 (1 + (k : Int)))))
        have t1 : IntKind.u8.wrap (1 + (k : Int)) = m8 (1 + (k : Int)) := rfl
        clear R2 hrow hB
        go_wp2_with fail
        go_roundw
        case rel => exact ⟨k + 1, by omega, by go_num, by first | go_num | (congr 1; done) | (congr 1; omega), R3.out, B2.out, by simpa using HSZ.out, fun q hq => (Below.heap_setCell wr ⟨g, k, none⟩ _ q (fun e => hq e)).trans (HKK.out q hq)⟩
        case measure => simp [intOf]; omega
      · obtain rfl : k = n := by omega
        have R3 := hid hrow
        clear hrow
        go_wp2_with fail
        go_ret
        refine ⟨rfl, ⟨some ⟨g, 0, none⟩, c, by rw [marksB_len], by rw [marksB_len]; exact hl, .inr ⟨g, rest, rfl, hg, ?_⟩⟩, hB, HSZ.out, fun q T xs hT hr => (HKK.out q (NEQ.out q T xs hT hr)).trans hr⟩
        have := R3.out
        rw [← HN.out, halfB_all] at this
        rw [← HN.out]
        exact this
set_option maxHeartbeats 1000000 in
theorem heldB_own (base : Nat) (v : Value) (n : Nat) (w : World) (h : OwnB w base v (marksB 1 n)) :
    Calls Tryz.prog 21 #[v, .int .i64 1] w fun e w' => e = .returned (.int .i64 (1 + (n : Int))) ∧ ∃ d, w' = w.drewN d := by
  obtain ⟨a, c, rfl, hl, k1⟩ := h
  rw [marksB_len] at hl ⊢
  rcases k1 with hz | ⟨g, rest, rfl, hg, R⟩
  · have h0 : n = 0 := by have := congrArg List.length hz; simpa [marksB_len] using this
    subst h0
    go_enter Tryz.func21, Tryz.ntmps21
    go_wp2_with fail
    refine wp_loop_rounds 1 ?_
    rw [rounds_succ]
    go_wp2_with fail
    go_ret
    exact ⟨rfl, 0, rfl⟩
  · have C := hid (fun j (hj : j < n) => (OwnB.cell R j (by rw [marksB_len]; exact hj)).trans (by rw [marksB_get _ _ _ hj]))
    clear R
    go_enter Tryz.func21, Tryz.ntmps21
    go_wp2_with fail
    go_loopw [1, 5] (fun m i wr => ∃ k : Nat, k ≤ n ∧ i = .int .i64 k ∧ m = .int .i64 (1 + (k : Int)) ∧ ∃ d, wr = w.drewN d) (fun _ i _ => n - (intOf i).toNat)
    case atStart => exact ⟨0, Nat.zero_le _, rfl, rfl, 0, rfl⟩
    case round =>
      obtain ⟨k, hk, rfl, rfl, d, rfl⟩ := hrel
      by_cases hlt : k < n
      · have hlt' : (k : Int) < (n : Int) := by omega
        have hk0 : (0 : Int) ≤ (k : Int) := by omega
        have cc := C.out k hlt
        have hb : (m8 (1 + (k : Int)) != m8 (1 + (k : Int))) = false := by simp
        have t1 : IntKind.u8.wrap (1 + (k : Int)) = m8 (1 + (k : Int)) := rfl
        go_wp2_with fail
        all_goals (try (go_quiet (fail); go_wp2_with fail))
        go_roundw
        case rel => exact ⟨k + 1, by omega, by go_num, by first | go_num | (congr 1; done) | (congr 1; omega), _, rfl⟩
        case measure => simp [intOf]; omega
      · obtain rfl : k = n := by omega
        go_wp2_with fail
        go_ret
        exact ⟨rfl, d, rfl⟩
end Go.Proofs.YtklkdbfdejabiaaGreatDoor
