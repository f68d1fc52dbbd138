/- Tickets that are genuine; the program's and the model's answers. -/
import Derived.Test.YtcbhlljgcndhdaaGreatDoorTickA
namespace Go.Proofs.YtcbhlljgcndhdaaGreatDoor
open Go.RowKit
theorem heldT {W : World} {g : Nat} {T : TypeId} {v0 v1 v2 v3 v4 v5 v6 v7 v8 v9 : Value} (h : Row W g T [v0, v1, v2, v3, v4, v5, v6, v7, v8, v9]) {w' : World} (hb : Below W.heap.size W w') :
    Below W.heap.size W w' ∧ w'.cell? ⟨g, 0, none⟩ = some v0 ∧ w'.cell? ⟨g, 1, none⟩ = some v1 ∧ w'.cell? ⟨g, 2, none⟩ = some v2 ∧ w'.cell? ⟨g, 3, none⟩ = some v3 ∧ w'.cell? ⟨g, 4, none⟩ = some v4 ∧ w'.cell? ⟨g, 5, none⟩ = some v5 ∧ w'.cell? ⟨g, 6, none⟩ = some v6 ∧ w'.cell? ⟨g, 7, none⟩ = some v7 ∧ w'.cell? ⟨g, 8, none⟩ = some v8 ∧ w'.cell? ⟨g, 9, none⟩ = some v9 := by
  have r := h.below hb h.lt
  exact ⟨hb, r.cell 0, r.cell 1, r.cell 2, r.cell 3, r.cell 4, r.cell 5, r.cell 6, r.cell 7, r.cell 8, r.cell 9⟩
/-- a ticket that is genuine, where the stack is valid -/
def gen (zs ds : List Int) (n c : Int) : Bool := (decide (1 ≤ n) && decide (n ≤ 1000000)) && (okD zs ds && (c == chk n ds))
theorem gen_number {zs ds : List Int} {n c : Int} (h : ¬ (1 ≤ n ∧ n ≤ 1000000)) : gen zs ds n c = false := by
  have e : (decide (1 ≤ n) && decide (n ≤ 1000000)) = false := by simpa using fun a => by omega
  rw [gen, e, Bool.false_and]
theorem gen_digits {zs ds : List Int} {n c : Int} (h : okD zs ds = false) : gen zs ds n c = false := by rw [gen, h, Bool.false_and, Bool.and_false]
theorem gen_rest {zs ds : List Int} {n c : Int} (h : 1 ≤ n ∧ n ≤ 1000000) (k : okD zs ds = true) : gen zs ds n c = (c == chk n ds) := by
  have e : (decide (1 ≤ n) && decide (n ≤ 1000000)) = true := by simp; omega
  rw [gen, e, k, Bool.true_and, Bool.true_and]
theorem okV_no' {zs ds : List Int} (h : okD zs ds = false) : okV zs ds = false := by
  cases hz : okL zs with
  | false => exact okV_no hz
  | true => rw [okV_yes hz, h]
set_option maxRecDepth 100000 in
set_option maxHeartbeats 4000000 in
theorem genuine_any (B m cap : Nat) (zs : List Int) (n : Int) (d0 d1 d2 d3 d4 d5 d6 d7 : Int) (c : Int) (w : World) (hS : Stk w B zs) (hm : m = zs.length) (hz : okL zs = true) (hn : -9223372036854775808 ≤ n ∧ n ≤ 9223372036854775807) (ho : Oct d0 d1 d2 d3 d4 d5 d6 d7) :
    Calls Tryz.prog 33 #[.slice (some ⟨B, 0, none⟩) m cap, .agg #[.int .i64 n, .int .u8 d0, .int .u8 d1, .int .u8 d2, .int .u8 d3, .int .u8 d4, .int .u8 d5, .int .u8 d6, .int .u8 d7, .int .u16 c]] w fun e w' => e = .returned (.bool (gen zs [d0, d1, d2, d3, d4, d5, d6, d7] n c)) ∧ Below w.heap.size w w' := by
  obtain ⟨W, hW⟩ : ∃ W, W = (w.alloc (.cells #[.int .i64 n, .int .u8 d0, .int .u8 d1, .int .u8 d2, .int .u8 d3, .int .u8 d4, .int .u8 d5, .int .u8 d6, .int .u8 d7, .int .u16 c] 27)) := ⟨_, rfl⟩
  have bel : Below w.heap.size w W := by rw [hW]; exact boxT_bel _ _ _
  have r0 : Row W w.heap.size 27 [.int .i64 n, .int .u8 d0, .int .u8 d1, .int .u8 d2, .int .u8 d3, .int .u8 d4, .int .u8 d5, .int .u8 d6, .int .u8 d7, .int .u16 c] := by rw [hW]; exact Row.new _ _ _
  have hK := hS.below bel hS.1
  have HS0 := hid (heldT r0 (Below.refl _ _).drew)
  have HN := hid (fun (w' : World) (h : (fun w' : World => Below W.heap.size W w' ∧ w'.cell? ⟨w.heap.size, 0, none⟩ = some (.int .i64 n) ∧ w'.cell? ⟨w.heap.size, 1, none⟩ = some (.int .u8 d0) ∧ w'.cell? ⟨w.heap.size, 2, none⟩ = some (.int .u8 d1) ∧ w'.cell? ⟨w.heap.size, 3, none⟩ = some (.int .u8 d2) ∧ w'.cell? ⟨w.heap.size, 4, none⟩ = some (.int .u8 d3) ∧ w'.cell? ⟨w.heap.size, 5, none⟩ = some (.int .u8 d4) ∧ w'.cell? ⟨w.heap.size, 6, none⟩ = some (.int .u8 d5) ∧ w'.cell? ⟨w.heap.size, 7, none⟩ = some (.int .u8 d6) ∧ w'.cell? ⟨w.heap.size, 8, none⟩ = some (.int .u8 d7) ∧ w'.cell? ⟨w.heap.size, 9, none⟩ = some (.int .u16 c)) w') => (isNumber_any n w').mono fun e w'' ⟨he, hB⟩ => And.intro he (hB ▸ h))
  have HV := hid (fun (w' : World) (h : (fun w' : World => Below W.heap.size W w' ∧ w'.cell? ⟨w.heap.size, 0, none⟩ = some (.int .i64 n) ∧ w'.cell? ⟨w.heap.size, 1, none⟩ = some (.int .u8 d0) ∧ w'.cell? ⟨w.heap.size, 2, none⟩ = some (.int .u8 d1) ∧ w'.cell? ⟨w.heap.size, 3, none⟩ = some (.int .u8 d2) ∧ w'.cell? ⟨w.heap.size, 4, none⟩ = some (.int .u8 d3) ∧ w'.cell? ⟨w.heap.size, 5, none⟩ = some (.int .u8 d4) ∧ w'.cell? ⟨w.heap.size, 6, none⟩ = some (.int .u8 d5) ∧ w'.cell? ⟨w.heap.size, 7, none⟩ = some (.int .u8 d6) ∧ w'.cell? ⟨w.heap.size, 8, none⟩ = some (.int .u8 d7) ∧ w'.cell? ⟨w.heap.size, 9, none⟩ = some (.int .u16 c)) w') => (validDigits_any B m cap zs d0 d1 d2 d3 d4 d5 d6 d7 w' (hK.below h.1 hK.1) hm ho).mono fun e w'' ⟨he, hB⟩ => And.intro he (heldT r0 (h.1.trans (hB.mono h.1.size))))
  have HT := hid (fun (w' : World) (h : (fun w' : World => Below W.heap.size W w' ∧ w'.cell? ⟨w.heap.size, 0, none⟩ = some (.int .i64 n) ∧ w'.cell? ⟨w.heap.size, 1, none⟩ = some (.int .u8 d0) ∧ w'.cell? ⟨w.heap.size, 2, none⟩ = some (.int .u8 d1) ∧ w'.cell? ⟨w.heap.size, 3, none⟩ = some (.int .u8 d2) ∧ w'.cell? ⟨w.heap.size, 4, none⟩ = some (.int .u8 d3) ∧ w'.cell? ⟨w.heap.size, 5, none⟩ = some (.int .u8 d4) ∧ w'.cell? ⟨w.heap.size, 6, none⟩ = some (.int .u8 d5) ∧ w'.cell? ⟨w.heap.size, 7, none⟩ = some (.int .u8 d6) ∧ w'.cell? ⟨w.heap.size, 8, none⟩ = some (.int .u8 d7) ∧ w'.cell? ⟨w.heap.size, 9, none⟩ = some (.int .u16 c)) w') => (ticketOf_any n d0 d1 d2 d3 d4 d5 d6 d7 w' hn ho).mono fun e w'' ⟨he, hB⟩ => And.intro he (heldT r0 (h.1.trans (hB.mono h.1.size))))
  have ev : okV zs [d0, d1, d2, d3, d4, d5, d6, d7] = okD zs [d0, d1, d2, d3, d4, d5, d6, d7] := by
    cases e : okD zs [d0, d1, d2, d3, d4, d5, d6, d7] with
    | false => exact okV_no' e
    | true => rw [okV_yes hz, e]
  rw [ev] at HV
  have BE := hid bel
  have HW := hid hW
  have QE := hid (fun c' w => eql_tick n d0 d1 d2 d3 d4 d5 d6 d7 c c' w)
  have QI := hid (fun c' w => eqlIn_tick n d0 d1 d2 d3 d4 d5 d6 d7 c c' w)
  clear bel hW hK hS hm r0 ho hn hz ev
  by_cases hk : 1 ≤ n ∧ n ≤ 1000000
  · have e1 : (decide (1 ≤ n) && decide (n ≤ 1000000)) = true := by simp; omega
    rw [e1] at HN
    cases hd : okD zs [d0, d1, d2, d3, d4, d5, d6, d7] with
    | false =>
      rw [gen_digits hd]
      rw [hd] at HV
      clear hd hk e1 QE QI
      go_enter Tryz.func33, Tryz.ntmps33
      go_wp2_with fail
      rw [← HW.out]
      refine wp_region_held (S := (fun w' : World => Below W.heap.size W w' ∧ w'.cell? ⟨w.heap.size, 0, none⟩ = some (.int .i64 n) ∧ w'.cell? ⟨w.heap.size, 1, none⟩ = some (.int .u8 d0) ∧ w'.cell? ⟨w.heap.size, 2, none⟩ = some (.int .u8 d1) ∧ w'.cell? ⟨w.heap.size, 3, none⟩ = some (.int .u8 d2) ∧ w'.cell? ⟨w.heap.size, 4, none⟩ = some (.int .u8 d3) ∧ w'.cell? ⟨w.heap.size, 5, none⟩ = some (.int .u8 d4) ∧ w'.cell? ⟨w.heap.size, 6, none⟩ = some (.int .u8 d5) ∧ w'.cell? ⟨w.heap.size, 7, none⟩ = some (.int .u8 d6) ∧ w'.cell? ⟨w.heap.size, 8, none⟩ = some (.int .u8 d7) ∧ w'.cell? ⟨w.heap.size, 9, none⟩ = some (.int .u16 c))) (by kernel_rfl) ?_
      change wpAnyH _ _ _ _ _ _ _ _ (World.drew _)
      have t0 : ((fun w' : World => Below W.heap.size W w' ∧ w'.cell? ⟨w.heap.size, 0, none⟩ = some (.int .i64 n) ∧ w'.cell? ⟨w.heap.size, 1, none⟩ = some (.int .u8 d0) ∧ w'.cell? ⟨w.heap.size, 2, none⟩ = some (.int .u8 d1) ∧ w'.cell? ⟨w.heap.size, 3, none⟩ = some (.int .u8 d2) ∧ w'.cell? ⟨w.heap.size, 4, none⟩ = some (.int .u8 d3) ∧ w'.cell? ⟨w.heap.size, 5, none⟩ = some (.int .u8 d4) ∧ w'.cell? ⟨w.heap.size, 6, none⟩ = some (.int .u8 d5) ∧ w'.cell? ⟨w.heap.size, 7, none⟩ = some (.int .u8 d6) ∧ w'.cell? ⟨w.heap.size, 8, none⟩ = some (.int .u8 d7) ∧ w'.cell? ⟨w.heap.size, 9, none⟩ = some (.int .u16 c))) _ := HS0.out
      refine wpAnyH_takeD (some 5) (i := 0) (v := ?_) rfl rfl (by kernel_rfl) (by kernel_rfl) (by kernel_rfl) (fun _ _ _ h => h) (.inl ⟨by kernel_rfl, ?_⟩) t0 ?_
      rotate_left
      · intro w' hw'; obtain ⟨hw1, hw2, hw3, hw4, hw5, hw6, hw7, hw8, hw9, hw10, hw11⟩ := hw'; go_simp; try with_reducible rfl
      try simp only [Act.put, List.setIfInBounds_toArray, List.set_cons_zero, List.set_cons_succ]
      refine wpAnyH_takeD (some 6) (i := 1) (v := ?_) rfl rfl (by kernel_rfl) (by kernel_rfl) (by kernel_rfl) (fun _ _ _ h => h) (.inl ⟨by kernel_rfl, ?_⟩) t0 ?_
      rotate_left
      · intro w' hw'; obtain ⟨hw1, hw2, hw3, hw4, hw5, hw6, hw7, hw8, hw9, hw10, hw11⟩ := hw'; go_simp; try with_reducible rfl
      try simp only [Act.put, List.setIfInBounds_toArray, List.set_cons_zero, List.set_cons_succ]
      refine wpAnyH_all (rs := [2]) (by kernel_rfl) (by simp) ?_
      intro i hi; simp only [List.mem_singleton] at hi; subst hi
      refine wpOp_step rfl (fun K hK => ?_)
      go_simp
      with_reducible refine (HN.out _ t0).mono ?_
      rintro e vt1 ⟨rfl, hvt1⟩
      have t1 := hvt1
      refine hK _ _ ⟨t1, ?_⟩
      try simp only [Act.put, List.setIfInBounds_toArray, List.set_cons_zero, List.set_cons_succ]
      refine wpAnyH_takeD (some 8) (i := 3) (v := ?_) rfl rfl (by kernel_rfl) (by kernel_rfl) (by kernel_rfl) (fun _ _ _ h => h) (.inl ⟨by kernel_rfl, ?_⟩) t1 ?_
      rotate_left
      · intro w' hw'; obtain ⟨hw1, hw2, hw3, hw4, hw5, hw6, hw7, hw8, hw9, hw10, hw11⟩ := hw'; go_simp; try with_reducible rfl
      try simp only [Act.put, List.setIfInBounds_toArray, List.set_cons_zero, List.set_cons_succ]
      refine wpAnyH_takeD (some 9) (i := 4) (v := ?_) rfl rfl (by kernel_rfl) (by kernel_rfl) (by kernel_rfl) (fun _ _ _ h => h) (.inl ⟨by kernel_rfl, ?_⟩) t1 ?_
      rotate_left
      · intro w' hw'; obtain ⟨hw1, hw2, hw3, hw4, hw5, hw6, hw7, hw8, hw9, hw10, hw11⟩ := hw'; go_simp; try with_reducible rfl
      try simp only [Act.put, List.setIfInBounds_toArray, List.set_cons_zero, List.set_cons_succ]
      refine wpAnyH_takeD (some 10) (i := 5) (v := ?_) rfl rfl (by kernel_rfl) (by kernel_rfl) (by kernel_rfl) (fun _ _ _ h => h) (.inl ⟨by kernel_rfl, ?_⟩) t1 ?_
      rotate_left
      · intro w' hw'; obtain ⟨hw1, hw2, hw3, hw4, hw5, hw6, hw7, hw8, hw9, hw10, hw11⟩ := hw'; go_simp; try with_reducible rfl
      try simp only [Act.put, List.setIfInBounds_toArray, List.set_cons_zero, List.set_cons_succ]
      refine wpAnyH_takeD (some 11) (i := 6) (v := ?_) rfl rfl (by kernel_rfl) (by kernel_rfl) (by kernel_rfl) (fun _ _ _ h => h) (.inl ⟨by kernel_rfl, ?_⟩) t1 ?_
      rotate_left
      · intro w' hw'; obtain ⟨hw1, hw2, hw3, hw4, hw5, hw6, hw7, hw8, hw9, hw10, hw11⟩ := hw'; go_simp; try with_reducible rfl
      try simp only [Act.put, List.setIfInBounds_toArray, List.set_cons_zero, List.set_cons_succ]
      refine wpAnyH_all (rs := [7]) (by kernel_rfl) (by simp) ?_
      intro i hi; simp only [List.mem_singleton] at hi; subst hi
      refine wpOp_step rfl (fun K hK => ?_)
      go_simp
      with_reducible refine (HV.out _ t1).mono ?_
      rintro e vt2 ⟨rfl, hvt2⟩
      have t2 := hvt2
      refine hK _ _ ⟨t2, ?_⟩
      try simp only [Act.put, List.setIfInBounds_toArray, List.set_cons_zero, List.set_cons_succ]
      refine wpAnyH_takeD (some 13) (i := 8) (v := ?_) rfl rfl (by kernel_rfl) (by kernel_rfl) (by kernel_rfl) (fun _ _ _ h => h) (.inl ⟨by kernel_rfl, ?_⟩) t2 ?_
      rotate_left
      · intro w' hw'; obtain ⟨hw1, hw2, hw3, hw4, hw5, hw6, hw7, hw8, hw9, hw10, hw11⟩ := hw'; go_simp; try with_reducible rfl
      try simp only [Act.put, List.setIfInBounds_toArray, List.set_cons_zero, List.set_cons_succ]
      refine wpAnyH_takeD (some 14) (i := 9) (v := ?_) rfl rfl (by kernel_rfl) (by kernel_rfl) (by kernel_rfl) (fun _ _ _ h => h) (.inl ⟨by kernel_rfl, ?_⟩) t2 ?_
      rotate_left
      · intro w' hw'; obtain ⟨hw1, hw2, hw3, hw4, hw5, hw6, hw7, hw8, hw9, hw10, hw11⟩ := hw'; go_simp; try with_reducible rfl
      try simp only [Act.put, List.setIfInBounds_toArray, List.set_cons_zero, List.set_cons_succ]
      refine wpAnyH_takeD (some 15) (i := 10) (v := undef) rfl rfl (by kernel_rfl) (by kernel_rfl) (by kernel_rfl) (fun _ _ _ h => h) (.inr ⟨by kernel_rfl, rfl⟩) t2 ?_
      try simp only [Act.put, List.setIfInBounds_toArray, List.set_cons_zero, List.set_cons_succ]
      refine wpAnyH_takeD (some 16) (i := 11) (v := undef) rfl rfl (by kernel_rfl) (by kernel_rfl) (by kernel_rfl) (fun _ _ _ h => h) (.inr ⟨by kernel_rfl, rfl⟩) t2 ?_
      try simp only [Act.put, List.setIfInBounds_toArray, List.set_cons_zero, List.set_cons_succ]
      refine wpAnyH_takeD (some 17) (i := 12) (v := undef) rfl rfl (by kernel_rfl) (by kernel_rfl) (by kernel_rfl) (fun _ _ _ h => h) (.inr ⟨by kernel_rfl, rfl⟩) t2 ?_
      try simp only [Act.put, List.setIfInBounds_toArray, List.set_cons_zero, List.set_cons_succ]
      refine wpAnyH_takeD (some 18) (i := 13) (v := undef) rfl rfl (by kernel_rfl) (by kernel_rfl) (by kernel_rfl) (fun _ _ _ h => h) (.inr ⟨by kernel_rfl, rfl⟩) t2 ?_
      try simp only [Act.put, List.setIfInBounds_toArray, List.set_cons_zero, List.set_cons_succ]
      refine wpAnyH_takeD (some 19) (i := 14) (v := undef) rfl rfl (by kernel_rfl) (by kernel_rfl) (by kernel_rfl) (fun _ _ _ h => h) (.inr ⟨by kernel_rfl, rfl⟩) t2 ?_
      try simp only [Act.put, List.setIfInBounds_toArray, List.set_cons_zero, List.set_cons_succ]
      refine wpAnyH_takeD (some 20) (i := 15) (v := undef) rfl rfl (by kernel_rfl) (by kernel_rfl) (by kernel_rfl) (fun _ _ _ h => h) (.inr ⟨by kernel_rfl, rfl⟩) t2 ?_
      try simp only [Act.put, List.setIfInBounds_toArray, List.set_cons_zero, List.set_cons_succ]
      refine wpAnyH_takeD (some 21) (i := 16) (v := undef) rfl rfl (by kernel_rfl) (by kernel_rfl) (by kernel_rfl) (fun _ _ _ h => h) (.inr ⟨by kernel_rfl, rfl⟩) t2 ?_
      try simp only [Act.put, List.setIfInBounds_toArray, List.set_cons_zero, List.set_cons_succ]
      refine wpAnyH_takeD (some 22) (i := 17) (v := ?_) rfl rfl (by kernel_rfl) (by kernel_rfl) (by kernel_rfl) (fun _ _ _ h => h) (.inl ⟨by kernel_rfl, ?_⟩) t2 ?_
      rotate_left
      · intro w' hw'; obtain ⟨hw1, hw2, hw3, hw4, hw5, hw6, hw7, hw8, hw9, hw10, hw11⟩ := hw'; go_simp; try with_reducible rfl
      try simp only [Act.put, List.setIfInBounds_toArray, List.set_cons_zero, List.set_cons_succ]
      refine wpAnyH_takeD (some 4) (i := 18) (v := ?_) rfl rfl (by kernel_rfl) (by kernel_rfl) (by kernel_rfl) (fun _ _ _ h => h) (.inl ⟨by kernel_rfl, ?_⟩) t2 ?_
      rotate_left
      · intro w' hw'; obtain ⟨hw1, hw2, hw3, hw4, hw5, hw6, hw7, hw8, hw9, hw10, hw11⟩ := hw'; go_simp; try with_reducible rfl
      try simp only [Act.put, List.setIfInBounds_toArray, List.set_cons_zero, List.set_cons_succ]
      refine wpAnyH_done (by kernel_rfl) ?_ _
      go_wp2_with fail
      go_ret
      exact ⟨rfl, BE.out.trans (t2.1.mono BE.out.size)⟩
    | true =>
      rw [gen_rest hk hd]
      rw [hd] at HV
      clear hd hk e1
      have QE := QE.out (chk n [d0, d1, d2, d3, d4, d5, d6, d7])
      have QI := QI.out (chk n [d0, d1, d2, d3, d4, d5, d6, d7])
      obtain ⟨k, hk⟩ : ∃ k, chk n [d0, d1, d2, d3, d4, d5, d6, d7] = k := ⟨_, rfl⟩
      rw [hk] at HT QE QI ⊢
      clear hk
      go_enter Tryz.func33, Tryz.ntmps33
      go_wp2_with fail
      rw [← HW.out]
      refine wp_region_held (S := (fun w' : World => Below W.heap.size W w' ∧ w'.cell? ⟨w.heap.size, 0, none⟩ = some (.int .i64 n) ∧ w'.cell? ⟨w.heap.size, 1, none⟩ = some (.int .u8 d0) ∧ w'.cell? ⟨w.heap.size, 2, none⟩ = some (.int .u8 d1) ∧ w'.cell? ⟨w.heap.size, 3, none⟩ = some (.int .u8 d2) ∧ w'.cell? ⟨w.heap.size, 4, none⟩ = some (.int .u8 d3) ∧ w'.cell? ⟨w.heap.size, 5, none⟩ = some (.int .u8 d4) ∧ w'.cell? ⟨w.heap.size, 6, none⟩ = some (.int .u8 d5) ∧ w'.cell? ⟨w.heap.size, 7, none⟩ = some (.int .u8 d6) ∧ w'.cell? ⟨w.heap.size, 8, none⟩ = some (.int .u8 d7) ∧ w'.cell? ⟨w.heap.size, 9, none⟩ = some (.int .u16 c))) (by kernel_rfl) ?_
      change wpAnyH _ _ _ _ _ _ _ _ (World.drew _)
      have t0 : ((fun w' : World => Below W.heap.size W w' ∧ w'.cell? ⟨w.heap.size, 0, none⟩ = some (.int .i64 n) ∧ w'.cell? ⟨w.heap.size, 1, none⟩ = some (.int .u8 d0) ∧ w'.cell? ⟨w.heap.size, 2, none⟩ = some (.int .u8 d1) ∧ w'.cell? ⟨w.heap.size, 3, none⟩ = some (.int .u8 d2) ∧ w'.cell? ⟨w.heap.size, 4, none⟩ = some (.int .u8 d3) ∧ w'.cell? ⟨w.heap.size, 5, none⟩ = some (.int .u8 d4) ∧ w'.cell? ⟨w.heap.size, 6, none⟩ = some (.int .u8 d5) ∧ w'.cell? ⟨w.heap.size, 7, none⟩ = some (.int .u8 d6) ∧ w'.cell? ⟨w.heap.size, 8, none⟩ = some (.int .u8 d7) ∧ w'.cell? ⟨w.heap.size, 9, none⟩ = some (.int .u16 c))) _ := HS0.out
      refine wpAnyH_takeD (some 5) (i := 0) (v := ?_) rfl rfl (by kernel_rfl) (by kernel_rfl) (by kernel_rfl) (fun _ _ _ h => h) (.inl ⟨by kernel_rfl, ?_⟩) t0 ?_
      rotate_left
      · intro w' hw'; obtain ⟨hw1, hw2, hw3, hw4, hw5, hw6, hw7, hw8, hw9, hw10, hw11⟩ := hw'; go_simp; try with_reducible rfl
      try simp only [Act.put, List.setIfInBounds_toArray, List.set_cons_zero, List.set_cons_succ]
      refine wpAnyH_takeD (some 6) (i := 1) (v := ?_) rfl rfl (by kernel_rfl) (by kernel_rfl) (by kernel_rfl) (fun _ _ _ h => h) (.inl ⟨by kernel_rfl, ?_⟩) t0 ?_
      rotate_left
      · intro w' hw'; obtain ⟨hw1, hw2, hw3, hw4, hw5, hw6, hw7, hw8, hw9, hw10, hw11⟩ := hw'; go_simp; try with_reducible rfl
      try simp only [Act.put, List.setIfInBounds_toArray, List.set_cons_zero, List.set_cons_succ]
      refine wpAnyH_all (rs := [2]) (by kernel_rfl) (by simp) ?_
      intro i hi; simp only [List.mem_singleton] at hi; subst hi
      refine wpOp_step rfl (fun K hK => ?_)
      go_simp
      with_reducible refine (HN.out _ t0).mono ?_
      rintro e vt1 ⟨rfl, hvt1⟩
      have t1 := hvt1
      refine hK _ _ ⟨t1, ?_⟩
      try simp only [Act.put, List.setIfInBounds_toArray, List.set_cons_zero, List.set_cons_succ]
      refine wpAnyH_takeD (some 8) (i := 3) (v := ?_) rfl rfl (by kernel_rfl) (by kernel_rfl) (by kernel_rfl) (fun _ _ _ h => h) (.inl ⟨by kernel_rfl, ?_⟩) t1 ?_
      rotate_left
      · intro w' hw'; obtain ⟨hw1, hw2, hw3, hw4, hw5, hw6, hw7, hw8, hw9, hw10, hw11⟩ := hw'; go_simp; try with_reducible rfl
      try simp only [Act.put, List.setIfInBounds_toArray, List.set_cons_zero, List.set_cons_succ]
      refine wpAnyH_takeD (some 9) (i := 4) (v := ?_) rfl rfl (by kernel_rfl) (by kernel_rfl) (by kernel_rfl) (fun _ _ _ h => h) (.inl ⟨by kernel_rfl, ?_⟩) t1 ?_
      rotate_left
      · intro w' hw'; obtain ⟨hw1, hw2, hw3, hw4, hw5, hw6, hw7, hw8, hw9, hw10, hw11⟩ := hw'; go_simp; try with_reducible rfl
      try simp only [Act.put, List.setIfInBounds_toArray, List.set_cons_zero, List.set_cons_succ]
      refine wpAnyH_takeD (some 10) (i := 5) (v := ?_) rfl rfl (by kernel_rfl) (by kernel_rfl) (by kernel_rfl) (fun _ _ _ h => h) (.inl ⟨by kernel_rfl, ?_⟩) t1 ?_
      rotate_left
      · intro w' hw'; obtain ⟨hw1, hw2, hw3, hw4, hw5, hw6, hw7, hw8, hw9, hw10, hw11⟩ := hw'; go_simp; try with_reducible rfl
      try simp only [Act.put, List.setIfInBounds_toArray, List.set_cons_zero, List.set_cons_succ]
      refine wpAnyH_takeD (some 11) (i := 6) (v := ?_) rfl rfl (by kernel_rfl) (by kernel_rfl) (by kernel_rfl) (fun _ _ _ h => h) (.inl ⟨by kernel_rfl, ?_⟩) t1 ?_
      rotate_left
      · intro w' hw'; obtain ⟨hw1, hw2, hw3, hw4, hw5, hw6, hw7, hw8, hw9, hw10, hw11⟩ := hw'; go_simp; try with_reducible rfl
      try simp only [Act.put, List.setIfInBounds_toArray, List.set_cons_zero, List.set_cons_succ]
      refine wpAnyH_all (rs := [7]) (by kernel_rfl) (by simp) ?_
      intro i hi; simp only [List.mem_singleton] at hi; subst hi
      refine wpOp_step rfl (fun K hK => ?_)
      go_simp
      with_reducible refine (HV.out _ t1).mono ?_
      rintro e vt2 ⟨rfl, hvt2⟩
      have t2 := hvt2
      refine hK _ _ ⟨t2, ?_⟩
      try simp only [Act.put, List.setIfInBounds_toArray, List.set_cons_zero, List.set_cons_succ]
      refine wpAnyH_takeD (some 13) (i := 8) (v := ?_) rfl rfl (by kernel_rfl) (by kernel_rfl) (by kernel_rfl) (fun _ _ _ h => h) (.inl ⟨by kernel_rfl, ?_⟩) t2 ?_
      rotate_left
      · intro w' hw'; obtain ⟨hw1, hw2, hw3, hw4, hw5, hw6, hw7, hw8, hw9, hw10, hw11⟩ := hw'; go_simp; try with_reducible rfl
      try simp only [Act.put, List.setIfInBounds_toArray, List.set_cons_zero, List.set_cons_succ]
      refine wpAnyH_takeD (some 14) (i := 9) (v := ?_) rfl rfl (by kernel_rfl) (by kernel_rfl) (by kernel_rfl) (fun _ _ _ h => h) (.inl ⟨by kernel_rfl, ?_⟩) t2 ?_
      rotate_left
      · intro w' hw'; obtain ⟨hw1, hw2, hw3, hw4, hw5, hw6, hw7, hw8, hw9, hw10, hw11⟩ := hw'; go_simp; try with_reducible rfl
      try simp only [Act.put, List.setIfInBounds_toArray, List.set_cons_zero, List.set_cons_succ]
      refine wpAnyH_takeD (some 15) (i := 10) (v := ?_) rfl rfl (by kernel_rfl) (by kernel_rfl) (by kernel_rfl) (fun _ _ _ h => h) (.inl ⟨by kernel_rfl, ?_⟩) t2 ?_
      rotate_left
      · intro w' hw'; obtain ⟨hw1, hw2, hw3, hw4, hw5, hw6, hw7, hw8, hw9, hw10, hw11⟩ := hw'; go_simp; try with_reducible rfl
      try simp only [Act.put, List.setIfInBounds_toArray, List.set_cons_zero, List.set_cons_succ]
      refine wpAnyH_takeD (some 16) (i := 11) (v := ?_) rfl rfl (by kernel_rfl) (by kernel_rfl) (by kernel_rfl) (fun _ _ _ h => h) (.inl ⟨by kernel_rfl, ?_⟩) t2 ?_
      rotate_left
      · intro w' hw'; obtain ⟨hw1, hw2, hw3, hw4, hw5, hw6, hw7, hw8, hw9, hw10, hw11⟩ := hw'; go_simp; try with_reducible rfl
      try simp only [Act.put, List.setIfInBounds_toArray, List.set_cons_zero, List.set_cons_succ]
      refine wpAnyH_takeD (some 17) (i := 12) (v := ?_) rfl rfl (by kernel_rfl) (by kernel_rfl) (by kernel_rfl) (fun _ _ _ h => h) (.inl ⟨by kernel_rfl, ?_⟩) t2 ?_
      rotate_left
      · intro w' hw'; obtain ⟨hw1, hw2, hw3, hw4, hw5, hw6, hw7, hw8, hw9, hw10, hw11⟩ := hw'; go_simp; try with_reducible rfl
      try simp only [Act.put, List.setIfInBounds_toArray, List.set_cons_zero, List.set_cons_succ]
      refine wpAnyH_takeD (some 18) (i := 13) (v := ?_) rfl rfl (by kernel_rfl) (by kernel_rfl) (by kernel_rfl) (fun _ _ _ h => h) (.inl ⟨by kernel_rfl, ?_⟩) t2 ?_
      rotate_left
      · intro w' hw'; obtain ⟨hw1, hw2, hw3, hw4, hw5, hw6, hw7, hw8, hw9, hw10, hw11⟩ := hw'; go_simp; try with_reducible rfl
      try simp only [Act.put, List.setIfInBounds_toArray, List.set_cons_zero, List.set_cons_succ]
      refine wpAnyH_takeD (some 19) (i := 14) (v := ?_) rfl rfl (by kernel_rfl) (by kernel_rfl) (by kernel_rfl) (fun _ _ _ h => h) (.inl ⟨by kernel_rfl, ?_⟩) t2 ?_
      rotate_left
      · intro w' hw'; obtain ⟨hw1, hw2, hw3, hw4, hw5, hw6, hw7, hw8, hw9, hw10, hw11⟩ := hw'; go_simp; try with_reducible rfl
      try simp only [Act.put, List.setIfInBounds_toArray, List.set_cons_zero, List.set_cons_succ]
      refine wpAnyH_all (rs := [15]) (by kernel_rfl) (by simp) ?_
      intro i hi; simp only [List.mem_singleton] at hi; subst hi
      refine wpOp_step rfl (fun K hK => ?_)
      go_simp
      with_reducible refine (HT.out _ t2).mono ?_
      rintro e vt3 ⟨rfl, hvt3⟩
      have t3 := hvt3
      refine hK _ _ ⟨t3, ?_⟩
      try simp only [Act.put, List.setIfInBounds_toArray, List.set_cons_zero, List.set_cons_succ]
      refine wpAnyH_takeD (some 21) (i := 16) (v := ?_) rfl rfl (by kernel_rfl) (by kernel_rfl) (by kernel_rfl) (fun _ _ _ h => h) (.inl ⟨by kernel_rfl, ?_⟩) t3 ?_
      rotate_left
      · intro w' hw'; obtain ⟨hw1, hw2, hw3, hw4, hw5, hw6, hw7, hw8, hw9, hw10, hw11⟩ := hw'; go_simp; try with_reducible rfl
      try simp only [Act.put, List.setIfInBounds_toArray, List.set_cons_zero, List.set_cons_succ]
      refine wpAnyH_takeD (some 22) (i := 17) (v := ?_) rfl rfl (by kernel_rfl) (by kernel_rfl) (by kernel_rfl) (fun _ _ _ h => h) (.inl ⟨by kernel_rfl, ?_⟩) t3 ?_
      rotate_left
      · intro w' hw'; obtain ⟨hw1, hw2, hw3, hw4, hw5, hw6, hw7, hw8, hw9, hw10, hw11⟩ := hw'; go_simp; try with_reducible rfl
      try simp only [Act.put, List.setIfInBounds_toArray, List.set_cons_zero, List.set_cons_succ]
      refine wpAnyH_takeD (some 4) (i := 18) (v := ?_) rfl rfl (by kernel_rfl) (by kernel_rfl) (by kernel_rfl) (fun _ _ _ h => h) (.inl ⟨by kernel_rfl, ?_⟩) t3 ?_
      rotate_left
      · intro w' hw'; obtain ⟨hw1, hw2, hw3, hw4, hw5, hw6, hw7, hw8, hw9, hw10, hw11⟩ := hw'; go_simp; try with_reducible rfl
      try simp only [Act.put, List.setIfInBounds_toArray, List.set_cons_zero, List.set_cons_succ]
      refine wpAnyH_done (by kernel_rfl) ?_ _
      go_wp2_with fail
      go_ret
      exact ⟨rfl, BE.out.trans (t3.1.mono BE.out.size)⟩
  · have e1 : (decide (1 ≤ n) && decide (n ≤ 1000000)) = false := by simpa using fun a => by omega
    rw [e1] at HN
    rw [gen_number hk]
    clear hk e1 QE QI
    go_enter Tryz.func33, Tryz.ntmps33
    go_wp2_with fail
    rw [← HW.out]
    refine wp_region_held (S := (fun w' : World => Below W.heap.size W w' ∧ w'.cell? ⟨w.heap.size, 0, none⟩ = some (.int .i64 n) ∧ w'.cell? ⟨w.heap.size, 1, none⟩ = some (.int .u8 d0) ∧ w'.cell? ⟨w.heap.size, 2, none⟩ = some (.int .u8 d1) ∧ w'.cell? ⟨w.heap.size, 3, none⟩ = some (.int .u8 d2) ∧ w'.cell? ⟨w.heap.size, 4, none⟩ = some (.int .u8 d3) ∧ w'.cell? ⟨w.heap.size, 5, none⟩ = some (.int .u8 d4) ∧ w'.cell? ⟨w.heap.size, 6, none⟩ = some (.int .u8 d5) ∧ w'.cell? ⟨w.heap.size, 7, none⟩ = some (.int .u8 d6) ∧ w'.cell? ⟨w.heap.size, 8, none⟩ = some (.int .u8 d7) ∧ w'.cell? ⟨w.heap.size, 9, none⟩ = some (.int .u16 c))) (by kernel_rfl) ?_
    change wpAnyH _ _ _ _ _ _ _ _ (World.drew _)
    have t0 : ((fun w' : World => Below W.heap.size W w' ∧ w'.cell? ⟨w.heap.size, 0, none⟩ = some (.int .i64 n) ∧ w'.cell? ⟨w.heap.size, 1, none⟩ = some (.int .u8 d0) ∧ w'.cell? ⟨w.heap.size, 2, none⟩ = some (.int .u8 d1) ∧ w'.cell? ⟨w.heap.size, 3, none⟩ = some (.int .u8 d2) ∧ w'.cell? ⟨w.heap.size, 4, none⟩ = some (.int .u8 d3) ∧ w'.cell? ⟨w.heap.size, 5, none⟩ = some (.int .u8 d4) ∧ w'.cell? ⟨w.heap.size, 6, none⟩ = some (.int .u8 d5) ∧ w'.cell? ⟨w.heap.size, 7, none⟩ = some (.int .u8 d6) ∧ w'.cell? ⟨w.heap.size, 8, none⟩ = some (.int .u8 d7) ∧ w'.cell? ⟨w.heap.size, 9, none⟩ = some (.int .u16 c))) _ := HS0.out
    refine wpAnyH_takeD (some 5) (i := 0) (v := ?_) rfl rfl (by kernel_rfl) (by kernel_rfl) (by kernel_rfl) (fun _ _ _ h => h) (.inl ⟨by kernel_rfl, ?_⟩) t0 ?_
    rotate_left
    · intro w' hw'; obtain ⟨hw1, hw2, hw3, hw4, hw5, hw6, hw7, hw8, hw9, hw10, hw11⟩ := hw'; go_simp; try with_reducible rfl
    try simp only [Act.put, List.setIfInBounds_toArray, List.set_cons_zero, List.set_cons_succ]
    refine wpAnyH_takeD (some 6) (i := 1) (v := ?_) rfl rfl (by kernel_rfl) (by kernel_rfl) (by kernel_rfl) (fun _ _ _ h => h) (.inl ⟨by kernel_rfl, ?_⟩) t0 ?_
    rotate_left
    · intro w' hw'; obtain ⟨hw1, hw2, hw3, hw4, hw5, hw6, hw7, hw8, hw9, hw10, hw11⟩ := hw'; go_simp; try with_reducible rfl
    try simp only [Act.put, List.setIfInBounds_toArray, List.set_cons_zero, List.set_cons_succ]
    refine wpAnyH_all (rs := [2]) (by kernel_rfl) (by simp) ?_
    intro i hi; simp only [List.mem_singleton] at hi; subst hi
    refine wpOp_step rfl (fun K hK => ?_)
    go_simp
    with_reducible refine (HN.out _ t0).mono ?_
    rintro e vt1 ⟨rfl, hvt1⟩
    have t1 := hvt1
    refine hK _ _ ⟨t1, ?_⟩
    try simp only [Act.put, List.setIfInBounds_toArray, List.set_cons_zero, List.set_cons_succ]
    refine wpAnyH_takeD (some 8) (i := 3) (v := ?_) rfl rfl (by kernel_rfl) (by kernel_rfl) (by kernel_rfl) (fun _ _ _ h => h) (.inl ⟨by kernel_rfl, ?_⟩) t1 ?_
    rotate_left
    · intro w' hw'; obtain ⟨hw1, hw2, hw3, hw4, hw5, hw6, hw7, hw8, hw9, hw10, hw11⟩ := hw'; go_simp; try with_reducible rfl
    try simp only [Act.put, List.setIfInBounds_toArray, List.set_cons_zero, List.set_cons_succ]
    refine wpAnyH_takeD (some 9) (i := 4) (v := undef) rfl rfl (by kernel_rfl) (by kernel_rfl) (by kernel_rfl) (fun _ _ _ h => h) (.inr ⟨by kernel_rfl, rfl⟩) t1 ?_
    try simp only [Act.put, List.setIfInBounds_toArray, List.set_cons_zero, List.set_cons_succ]
    refine wpAnyH_takeD (some 10) (i := 5) (v := undef) rfl rfl (by kernel_rfl) (by kernel_rfl) (by kernel_rfl) (fun _ _ _ h => h) (.inr ⟨by kernel_rfl, rfl⟩) t1 ?_
    try simp only [Act.put, List.setIfInBounds_toArray, List.set_cons_zero, List.set_cons_succ]
    refine wpAnyH_takeD (some 11) (i := 6) (v := undef) rfl rfl (by kernel_rfl) (by kernel_rfl) (by kernel_rfl) (fun _ _ _ h => h) (.inr ⟨by kernel_rfl, rfl⟩) t1 ?_
    try simp only [Act.put, List.setIfInBounds_toArray, List.set_cons_zero, List.set_cons_succ]
    refine wpAnyH_takeD (some 12) (i := 7) (v := undef) rfl rfl (by kernel_rfl) (by kernel_rfl) (by kernel_rfl) (fun _ _ _ h => h) (.inr ⟨by kernel_rfl, rfl⟩) t1 ?_
    try simp only [Act.put, List.setIfInBounds_toArray, List.set_cons_zero, List.set_cons_succ]
    refine wpAnyH_takeD (some 13) (i := 8) (v := ?_) rfl rfl (by kernel_rfl) (by kernel_rfl) (by kernel_rfl) (fun _ _ _ h => h) (.inl ⟨by kernel_rfl, ?_⟩) t1 ?_
    rotate_left
    · intro w' hw'; obtain ⟨hw1, hw2, hw3, hw4, hw5, hw6, hw7, hw8, hw9, hw10, hw11⟩ := hw'; go_simp; try with_reducible rfl
    try simp only [Act.put, List.setIfInBounds_toArray, List.set_cons_zero, List.set_cons_succ]
    refine wpAnyH_takeD (some 14) (i := 9) (v := ?_) rfl rfl (by kernel_rfl) (by kernel_rfl) (by kernel_rfl) (fun _ _ _ h => h) (.inl ⟨by kernel_rfl, ?_⟩) t1 ?_
    rotate_left
    · intro w' hw'; obtain ⟨hw1, hw2, hw3, hw4, hw5, hw6, hw7, hw8, hw9, hw10, hw11⟩ := hw'; go_simp; try with_reducible rfl
    try simp only [Act.put, List.setIfInBounds_toArray, List.set_cons_zero, List.set_cons_succ]
    refine wpAnyH_takeD (some 15) (i := 10) (v := undef) rfl rfl (by kernel_rfl) (by kernel_rfl) (by kernel_rfl) (fun _ _ _ h => h) (.inr ⟨by kernel_rfl, rfl⟩) t1 ?_
    try simp only [Act.put, List.setIfInBounds_toArray, List.set_cons_zero, List.set_cons_succ]
    refine wpAnyH_takeD (some 16) (i := 11) (v := undef) rfl rfl (by kernel_rfl) (by kernel_rfl) (by kernel_rfl) (fun _ _ _ h => h) (.inr ⟨by kernel_rfl, rfl⟩) t1 ?_
    try simp only [Act.put, List.setIfInBounds_toArray, List.set_cons_zero, List.set_cons_succ]
    refine wpAnyH_takeD (some 17) (i := 12) (v := undef) rfl rfl (by kernel_rfl) (by kernel_rfl) (by kernel_rfl) (fun _ _ _ h => h) (.inr ⟨by kernel_rfl, rfl⟩) t1 ?_
    try simp only [Act.put, List.setIfInBounds_toArray, List.set_cons_zero, List.set_cons_succ]
    refine wpAnyH_takeD (some 18) (i := 13) (v := undef) rfl rfl (by kernel_rfl) (by kernel_rfl) (by kernel_rfl) (fun _ _ _ h => h) (.inr ⟨by kernel_rfl, rfl⟩) t1 ?_
    try simp only [Act.put, List.setIfInBounds_toArray, List.set_cons_zero, List.set_cons_succ]
    refine wpAnyH_takeD (some 19) (i := 14) (v := undef) rfl rfl (by kernel_rfl) (by kernel_rfl) (by kernel_rfl) (fun _ _ _ h => h) (.inr ⟨by kernel_rfl, rfl⟩) t1 ?_
    try simp only [Act.put, List.setIfInBounds_toArray, List.set_cons_zero, List.set_cons_succ]
    refine wpAnyH_takeD (some 20) (i := 15) (v := undef) rfl rfl (by kernel_rfl) (by kernel_rfl) (by kernel_rfl) (fun _ _ _ h => h) (.inr ⟨by kernel_rfl, rfl⟩) t1 ?_
    try simp only [Act.put, List.setIfInBounds_toArray, List.set_cons_zero, List.set_cons_succ]
    refine wpAnyH_takeD (some 21) (i := 16) (v := undef) rfl rfl (by kernel_rfl) (by kernel_rfl) (by kernel_rfl) (fun _ _ _ h => h) (.inr ⟨by kernel_rfl, rfl⟩) t1 ?_
    try simp only [Act.put, List.setIfInBounds_toArray, List.set_cons_zero, List.set_cons_succ]
    refine wpAnyH_takeD (some 22) (i := 17) (v := ?_) rfl rfl (by kernel_rfl) (by kernel_rfl) (by kernel_rfl) (fun _ _ _ h => h) (.inl ⟨by kernel_rfl, ?_⟩) t1 ?_
    rotate_left
    · intro w' hw'; obtain ⟨hw1, hw2, hw3, hw4, hw5, hw6, hw7, hw8, hw9, hw10, hw11⟩ := hw'; go_simp; try with_reducible rfl
    try simp only [Act.put, List.setIfInBounds_toArray, List.set_cons_zero, List.set_cons_succ]
    refine wpAnyH_takeD (some 4) (i := 18) (v := ?_) rfl rfl (by kernel_rfl) (by kernel_rfl) (by kernel_rfl) (fun _ _ _ h => h) (.inl ⟨by kernel_rfl, ?_⟩) t1 ?_
    rotate_left
    · intro w' hw'; obtain ⟨hw1, hw2, hw3, hw4, hw5, hw6, hw7, hw8, hw9, hw10, hw11⟩ := hw'; go_simp; try with_reducible rfl
    try simp only [Act.put, List.setIfInBounds_toArray, List.set_cons_zero, List.set_cons_succ]
    refine wpAnyH_done (by kernel_rfl) ?_ _
    go_wp2_with fail
    go_ret
    exact ⟨rfl, BE.out.trans (t1.1.mono BE.out.size)⟩
set_option maxRecDepth 100000 in
set_option maxHeartbeats 4000000 in
theorem l07Genuine_any (g B m cap : Nat) (zs : List Int) (n : Int) (d0 d1 d2 d3 d4 d5 d6 d7 : Int) (c : Int) (w : World) (hS : Stk w B zs) (hm : m = zs.length) (hn : -9223372036854775808 ≤ n ∧ n ≤ 9223372036854775807) (ho : Oct d0 d1 d2 d3 d4 d5 d6 d7) (r0 : Row w g 27 [.int .i64 n, .int .u8 d0, .int .u8 d1, .int .u8 d2, .int .u8 d3, .int .u8 d4, .int .u8 d5, .int .u8 d6, .int .u8 d7, .int .u16 c]) :
    Calls Tryz.prog 13 #[.slice (some ⟨B, 0, none⟩) m cap, .pointer (some ⟨g, 0, none⟩)] w fun e w' => e = .returned (.bool (gen zs [d0, d1, d2, d3, d4, d5, d6, d7] n c)) ∧ Below w.heap.size w w' := by
  have HS0 := hid (heldT r0 (Below.refl _ _).drew)
  have HN := hid (fun (w' : World) (h : (fun w' : World => Below w.heap.size w w' ∧ w'.cell? ⟨g, 0, none⟩ = some (.int .i64 n) ∧ w'.cell? ⟨g, 1, none⟩ = some (.int .u8 d0) ∧ w'.cell? ⟨g, 2, none⟩ = some (.int .u8 d1) ∧ w'.cell? ⟨g, 3, none⟩ = some (.int .u8 d2) ∧ w'.cell? ⟨g, 4, none⟩ = some (.int .u8 d3) ∧ w'.cell? ⟨g, 5, none⟩ = some (.int .u8 d4) ∧ w'.cell? ⟨g, 6, none⟩ = some (.int .u8 d5) ∧ w'.cell? ⟨g, 7, none⟩ = some (.int .u8 d6) ∧ w'.cell? ⟨g, 8, none⟩ = some (.int .u8 d7) ∧ w'.cell? ⟨g, 9, none⟩ = some (.int .u16 c)) w') => (inr_any n 1 1000000 w').mono fun e w'' ⟨he, hB⟩ => And.intro he (hB ▸ h))
  have HV := hid (fun (w' : World) (h : (fun w' : World => Below w.heap.size w w' ∧ w'.cell? ⟨g, 0, none⟩ = some (.int .i64 n) ∧ w'.cell? ⟨g, 1, none⟩ = some (.int .u8 d0) ∧ w'.cell? ⟨g, 2, none⟩ = some (.int .u8 d1) ∧ w'.cell? ⟨g, 3, none⟩ = some (.int .u8 d2) ∧ w'.cell? ⟨g, 4, none⟩ = some (.int .u8 d3) ∧ w'.cell? ⟨g, 5, none⟩ = some (.int .u8 d4) ∧ w'.cell? ⟨g, 6, none⟩ = some (.int .u8 d5) ∧ w'.cell? ⟨g, 7, none⟩ = some (.int .u8 d6) ∧ w'.cell? ⟨g, 8, none⟩ = some (.int .u8 d7) ∧ w'.cell? ⟨g, 9, none⟩ = some (.int .u16 c)) w') => (l01Digits_any B m cap zs d0 d1 d2 d3 d4 d5 d6 d7 w' (hS.below h.1 hS.1) hm ho).mono fun e w'' ⟨he, hB⟩ => And.intro he (heldT r0 (h.1.trans (hB.mono h.1.size))))
  have HT := hid (fun (w' : World) (h : (fun w' : World => Below w.heap.size w w' ∧ w'.cell? ⟨g, 0, none⟩ = some (.int .i64 n) ∧ w'.cell? ⟨g, 1, none⟩ = some (.int .u8 d0) ∧ w'.cell? ⟨g, 2, none⟩ = some (.int .u8 d1) ∧ w'.cell? ⟨g, 3, none⟩ = some (.int .u8 d2) ∧ w'.cell? ⟨g, 4, none⟩ = some (.int .u8 d3) ∧ w'.cell? ⟨g, 5, none⟩ = some (.int .u8 d4) ∧ w'.cell? ⟨g, 6, none⟩ = some (.int .u8 d5) ∧ w'.cell? ⟨g, 7, none⟩ = some (.int .u8 d6) ∧ w'.cell? ⟨g, 8, none⟩ = some (.int .u8 d7) ∧ w'.cell? ⟨g, 9, none⟩ = some (.int .u16 c)) w') => (l07Check_any n d0 d1 d2 d3 d4 d5 d6 d7 w' hn ho).mono fun e w'' ⟨he, hB⟩ => And.intro he (heldT r0 (h.1.trans (hB.mono h.1.size))))
  clear hS hm r0 ho hn
  by_cases hk : 1 ≤ n ∧ n ≤ 1000000
  · have e1 : (decide (1 ≤ n) && decide (n ≤ 1000000)) = true := by simp; omega
    rw [e1] at HN
    cases hd : okD zs [d0, d1, d2, d3, d4, d5, d6, d7] with
    | false =>
      rw [gen_digits hd]
      rw [hd] at HV
      clear hd hk e1
      go_enter Tryz.func13, Tryz.ntmps13
      go_wp2_with fail
      refine wp_region_held (S := (fun w' : World => Below w.heap.size w w' ∧ w'.cell? ⟨g, 0, none⟩ = some (.int .i64 n) ∧ w'.cell? ⟨g, 1, none⟩ = some (.int .u8 d0) ∧ w'.cell? ⟨g, 2, none⟩ = some (.int .u8 d1) ∧ w'.cell? ⟨g, 3, none⟩ = some (.int .u8 d2) ∧ w'.cell? ⟨g, 4, none⟩ = some (.int .u8 d3) ∧ w'.cell? ⟨g, 5, none⟩ = some (.int .u8 d4) ∧ w'.cell? ⟨g, 6, none⟩ = some (.int .u8 d5) ∧ w'.cell? ⟨g, 7, none⟩ = some (.int .u8 d6) ∧ w'.cell? ⟨g, 8, none⟩ = some (.int .u8 d7) ∧ w'.cell? ⟨g, 9, none⟩ = some (.int .u16 c))) (by kernel_rfl) ?_
      change wpAnyH _ _ _ _ _ _ _ _ (World.drew _)
      have t0 : ((fun w' : World => Below w.heap.size w w' ∧ w'.cell? ⟨g, 0, none⟩ = some (.int .i64 n) ∧ w'.cell? ⟨g, 1, none⟩ = some (.int .u8 d0) ∧ w'.cell? ⟨g, 2, none⟩ = some (.int .u8 d1) ∧ w'.cell? ⟨g, 3, none⟩ = some (.int .u8 d2) ∧ w'.cell? ⟨g, 4, none⟩ = some (.int .u8 d3) ∧ w'.cell? ⟨g, 5, none⟩ = some (.int .u8 d4) ∧ w'.cell? ⟨g, 6, none⟩ = some (.int .u8 d5) ∧ w'.cell? ⟨g, 7, none⟩ = some (.int .u8 d6) ∧ w'.cell? ⟨g, 8, none⟩ = some (.int .u8 d7) ∧ w'.cell? ⟨g, 9, none⟩ = some (.int .u16 c))) _ := HS0.out
      refine wpAnyH_takeD (some 5) (i := 0) (v := ?_) rfl rfl (by kernel_rfl) (by kernel_rfl) (by kernel_rfl) (fun _ _ _ h => h) (.inl ⟨by kernel_rfl, ?_⟩) t0 ?_
      rotate_left
      · intro w' hw'; obtain ⟨hw1, hw2, hw3, hw4, hw5, hw6, hw7, hw8, hw9, hw10, hw11⟩ := hw'; go_simp; try with_reducible rfl
      try simp only [Act.put, List.setIfInBounds_toArray, List.set_cons_zero, List.set_cons_succ]
      refine wpAnyH_takeD (some 6) (i := 1) (v := ?_) rfl rfl (by kernel_rfl) (by kernel_rfl) (by kernel_rfl) (fun _ _ _ h => h) (.inl ⟨by kernel_rfl, ?_⟩) t0 ?_
      rotate_left
      · intro w' hw'; obtain ⟨hw1, hw2, hw3, hw4, hw5, hw6, hw7, hw8, hw9, hw10, hw11⟩ := hw'; go_simp; try with_reducible rfl
      try simp only [Act.put, List.setIfInBounds_toArray, List.set_cons_zero, List.set_cons_succ]
      refine wpAnyH_takeD (some 7) (i := 2) (v := ?_) rfl rfl (by kernel_rfl) (by kernel_rfl) (by kernel_rfl) (fun _ _ _ h => h) (.inl ⟨by kernel_rfl, ?_⟩) t0 ?_
      rotate_left
      · intro w' hw'; obtain ⟨hw1, hw2, hw3, hw4, hw5, hw6, hw7, hw8, hw9, hw10, hw11⟩ := hw'; go_simp; try with_reducible rfl
      try simp only [Act.put, List.setIfInBounds_toArray, List.set_cons_zero, List.set_cons_succ]
      refine wpAnyH_takeD (some 8) (i := 3) (v := ?_) rfl rfl (by kernel_rfl) (by kernel_rfl) (by kernel_rfl) (fun _ _ _ h => h) (.inl ⟨by kernel_rfl, ?_⟩) t0 ?_
      rotate_left
      · intro w' hw'; obtain ⟨hw1, hw2, hw3, hw4, hw5, hw6, hw7, hw8, hw9, hw10, hw11⟩ := hw'; go_simp; try with_reducible rfl
      try simp only [Act.put, List.setIfInBounds_toArray, List.set_cons_zero, List.set_cons_succ]
      refine wpAnyH_all (rs := [4]) (by kernel_rfl) (by simp) ?_
      intro i hi; simp only [List.mem_singleton] at hi; subst hi
      refine wpOp_step rfl (fun K hK => ?_)
      go_simp
      with_reducible refine (HN.out _ t0).mono ?_
      rintro e vt1 ⟨rfl, hvt1⟩
      have t1 := hvt1
      refine hK _ _ ⟨t1, ?_⟩
      try simp only [Act.put, List.setIfInBounds_toArray, List.set_cons_zero, List.set_cons_succ]
      refine wpAnyH_takeD (some 10) (i := 5) (v := ?_) rfl rfl (by kernel_rfl) (by kernel_rfl) (by kernel_rfl) (fun _ _ _ h => h) (.inl ⟨by kernel_rfl, ?_⟩) t1 ?_
      rotate_left
      · intro w' hw'; obtain ⟨hw1, hw2, hw3, hw4, hw5, hw6, hw7, hw8, hw9, hw10, hw11⟩ := hw'; go_simp; try with_reducible rfl
      try simp only [Act.put, List.setIfInBounds_toArray, List.set_cons_zero, List.set_cons_succ]
      refine wpAnyH_takeD (some 11) (i := 6) (v := ?_) rfl rfl (by kernel_rfl) (by kernel_rfl) (by kernel_rfl) (fun _ _ _ h => h) (.inl ⟨by kernel_rfl, ?_⟩) t1 ?_
      rotate_left
      · intro w' hw'; obtain ⟨hw1, hw2, hw3, hw4, hw5, hw6, hw7, hw8, hw9, hw10, hw11⟩ := hw'; go_simp; try with_reducible rfl
      try simp only [Act.put, List.setIfInBounds_toArray, List.set_cons_zero, List.set_cons_succ]
      refine wpAnyH_takeD (some 12) (i := 7) (v := ?_) rfl rfl (by kernel_rfl) (by kernel_rfl) (by kernel_rfl) (fun _ _ _ h => h) (.inl ⟨by kernel_rfl, ?_⟩) t1 ?_
      rotate_left
      · intro w' hw'; obtain ⟨hw1, hw2, hw3, hw4, hw5, hw6, hw7, hw8, hw9, hw10, hw11⟩ := hw'; go_simp; try with_reducible rfl
      try simp only [Act.put, List.setIfInBounds_toArray, List.set_cons_zero, List.set_cons_succ]
      refine wpAnyH_takeD (some 13) (i := 8) (v := ?_) rfl rfl (by kernel_rfl) (by kernel_rfl) (by kernel_rfl) (fun _ _ _ h => h) (.inl ⟨by kernel_rfl, ?_⟩) t1 ?_
      rotate_left
      · intro w' hw'; obtain ⟨hw1, hw2, hw3, hw4, hw5, hw6, hw7, hw8, hw9, hw10, hw11⟩ := hw'; go_simp; try with_reducible rfl
      try simp only [Act.put, List.setIfInBounds_toArray, List.set_cons_zero, List.set_cons_succ]
      refine wpAnyH_takeD (some 14) (i := 9) (v := ?_) rfl rfl (by kernel_rfl) (by kernel_rfl) (by kernel_rfl) (fun _ _ _ h => h) (.inl ⟨by kernel_rfl, ?_⟩) t1 ?_
      rotate_left
      · intro w' hw'; obtain ⟨hw1, hw2, hw3, hw4, hw5, hw6, hw7, hw8, hw9, hw10, hw11⟩ := hw'; go_simp; try with_reducible rfl
      try simp only [Act.put, List.setIfInBounds_toArray, List.set_cons_zero, List.set_cons_succ]
      refine wpAnyH_takeD (some 15) (i := 10) (v := ?_) rfl rfl (by kernel_rfl) (by kernel_rfl) (by kernel_rfl) (fun _ _ _ h => h) (.inl ⟨by kernel_rfl, ?_⟩) t1 ?_
      rotate_left
      · intro w' hw'; obtain ⟨hw1, hw2, hw3, hw4, hw5, hw6, hw7, hw8, hw9, hw10, hw11⟩ := hw'; go_simp; try with_reducible rfl
      try simp only [Act.put, List.setIfInBounds_toArray, List.set_cons_zero, List.set_cons_succ]
      refine wpAnyH_all (rs := [11]) (by kernel_rfl) (by simp) ?_
      intro i hi; simp only [List.mem_singleton] at hi; subst hi
      refine wpOp_step rfl (fun K hK => ?_)
      go_simp
      with_reducible refine (HV.out _ t1).mono ?_
      rintro e vt2 ⟨rfl, hvt2⟩
      have t2 := hvt2
      refine hK _ _ ⟨t2, ?_⟩
      try simp only [Act.put, List.setIfInBounds_toArray, List.set_cons_zero, List.set_cons_succ]
      refine wpAnyH_takeD (some 17) (i := 12) (v := ?_) rfl rfl (by kernel_rfl) (by kernel_rfl) (by kernel_rfl) (fun _ _ _ h => h) (.inl ⟨by kernel_rfl, ?_⟩) t2 ?_
      rotate_left
      · intro w' hw'; obtain ⟨hw1, hw2, hw3, hw4, hw5, hw6, hw7, hw8, hw9, hw10, hw11⟩ := hw'; go_simp; try with_reducible rfl
      try simp only [Act.put, List.setIfInBounds_toArray, List.set_cons_zero, List.set_cons_succ]
      refine wpAnyH_takeD (some 18) (i := 13) (v := ?_) rfl rfl (by kernel_rfl) (by kernel_rfl) (by kernel_rfl) (fun _ _ _ h => h) (.inl ⟨by kernel_rfl, ?_⟩) t2 ?_
      rotate_left
      · intro w' hw'; obtain ⟨hw1, hw2, hw3, hw4, hw5, hw6, hw7, hw8, hw9, hw10, hw11⟩ := hw'; go_simp; try with_reducible rfl
      try simp only [Act.put, List.setIfInBounds_toArray, List.set_cons_zero, List.set_cons_succ]
      refine wpAnyH_takeD (some 19) (i := 14) (v := undef) rfl rfl (by kernel_rfl) (by kernel_rfl) (by kernel_rfl) (fun _ _ _ h => h) (.inr ⟨by kernel_rfl, rfl⟩) t2 ?_
      try simp only [Act.put, List.setIfInBounds_toArray, List.set_cons_zero, List.set_cons_succ]
      refine wpAnyH_takeD (some 20) (i := 15) (v := undef) rfl rfl (by kernel_rfl) (by kernel_rfl) (by kernel_rfl) (fun _ _ _ h => h) (.inr ⟨by kernel_rfl, rfl⟩) t2 ?_
      try simp only [Act.put, List.setIfInBounds_toArray, List.set_cons_zero, List.set_cons_succ]
      refine wpAnyH_takeD (some 21) (i := 16) (v := undef) rfl rfl (by kernel_rfl) (by kernel_rfl) (by kernel_rfl) (fun _ _ _ h => h) (.inr ⟨by kernel_rfl, rfl⟩) t2 ?_
      try simp only [Act.put, List.setIfInBounds_toArray, List.set_cons_zero, List.set_cons_succ]
      refine wpAnyH_takeD (some 22) (i := 17) (v := undef) rfl rfl (by kernel_rfl) (by kernel_rfl) (by kernel_rfl) (fun _ _ _ h => h) (.inr ⟨by kernel_rfl, rfl⟩) t2 ?_
      try simp only [Act.put, List.setIfInBounds_toArray, List.set_cons_zero, List.set_cons_succ]
      refine wpAnyH_takeD (some 23) (i := 18) (v := undef) rfl rfl (by kernel_rfl) (by kernel_rfl) (by kernel_rfl) (fun _ _ _ h => h) (.inr ⟨by kernel_rfl, rfl⟩) t2 ?_
      try simp only [Act.put, List.setIfInBounds_toArray, List.set_cons_zero, List.set_cons_succ]
      refine wpAnyH_takeD (some 24) (i := 19) (v := undef) rfl rfl (by kernel_rfl) (by kernel_rfl) (by kernel_rfl) (fun _ _ _ h => h) (.inr ⟨by kernel_rfl, rfl⟩) t2 ?_
      try simp only [Act.put, List.setIfInBounds_toArray, List.set_cons_zero, List.set_cons_succ]
      refine wpAnyH_takeD (some 25) (i := 20) (v := undef) rfl rfl (by kernel_rfl) (by kernel_rfl) (by kernel_rfl) (fun _ _ _ h => h) (.inr ⟨by kernel_rfl, rfl⟩) t2 ?_
      try simp only [Act.put, List.setIfInBounds_toArray, List.set_cons_zero, List.set_cons_succ]
      refine wpAnyH_takeD (some 26) (i := 21) (v := undef) rfl rfl (by kernel_rfl) (by kernel_rfl) (by kernel_rfl) (fun _ _ _ h => h) (.inr ⟨by kernel_rfl, rfl⟩) t2 ?_
      try simp only [Act.put, List.setIfInBounds_toArray, List.set_cons_zero, List.set_cons_succ]
      refine wpAnyH_takeD (some 27) (i := 22) (v := undef) rfl rfl (by kernel_rfl) (by kernel_rfl) (by kernel_rfl) (fun _ _ _ h => h) (.inr ⟨by kernel_rfl, rfl⟩) t2 ?_
      try simp only [Act.put, List.setIfInBounds_toArray, List.set_cons_zero, List.set_cons_succ]
      refine wpAnyH_takeD (some 28) (i := 23) (v := undef) rfl rfl (by kernel_rfl) (by kernel_rfl) (by kernel_rfl) (fun _ _ _ h => h) (.inr ⟨by kernel_rfl, rfl⟩) t2 ?_
      try simp only [Act.put, List.setIfInBounds_toArray, List.set_cons_zero, List.set_cons_succ]
      refine wpAnyH_takeD (some 29) (i := 24) (v := undef) rfl rfl (by kernel_rfl) (by kernel_rfl) (by kernel_rfl) (fun _ _ _ h => h) (.inr ⟨by kernel_rfl, rfl⟩) t2 ?_
      try simp only [Act.put, List.setIfInBounds_toArray, List.set_cons_zero, List.set_cons_succ]
      refine wpAnyH_takeD (some 30) (i := 25) (v := undef) rfl rfl (by kernel_rfl) (by kernel_rfl) (by kernel_rfl) (fun _ _ _ h => h) (.inr ⟨by kernel_rfl, rfl⟩) t2 ?_
      try simp only [Act.put, List.setIfInBounds_toArray, List.set_cons_zero, List.set_cons_succ]
      refine wpAnyH_takeD (some 31) (i := 26) (v := undef) rfl rfl (by kernel_rfl) (by kernel_rfl) (by kernel_rfl) (fun _ _ _ h => h) (.inr ⟨by kernel_rfl, rfl⟩) t2 ?_
      try simp only [Act.put, List.setIfInBounds_toArray, List.set_cons_zero, List.set_cons_succ]
      refine wpAnyH_takeD (some 32) (i := 27) (v := undef) rfl rfl (by kernel_rfl) (by kernel_rfl) (by kernel_rfl) (fun _ _ _ h => h) (.inr ⟨by kernel_rfl, rfl⟩) t2 ?_
      try simp only [Act.put, List.setIfInBounds_toArray, List.set_cons_zero, List.set_cons_succ]
      refine wpAnyH_takeD (some 33) (i := 28) (v := ?_) rfl rfl (by kernel_rfl) (by kernel_rfl) (by kernel_rfl) (fun _ _ _ h => h) (.inl ⟨by kernel_rfl, ?_⟩) t2 ?_
      rotate_left
      · intro w' hw'; obtain ⟨hw1, hw2, hw3, hw4, hw5, hw6, hw7, hw8, hw9, hw10, hw11⟩ := hw'; go_simp; try with_reducible rfl
      try simp only [Act.put, List.setIfInBounds_toArray, List.set_cons_zero, List.set_cons_succ]
      refine wpAnyH_takeD (some 4) (i := 29) (v := ?_) rfl rfl (by kernel_rfl) (by kernel_rfl) (by kernel_rfl) (fun _ _ _ h => h) (.inl ⟨by kernel_rfl, ?_⟩) t2 ?_
      rotate_left
      · intro w' hw'; obtain ⟨hw1, hw2, hw3, hw4, hw5, hw6, hw7, hw8, hw9, hw10, hw11⟩ := hw'; go_simp; try with_reducible rfl
      try simp only [Act.put, List.setIfInBounds_toArray, List.set_cons_zero, List.set_cons_succ]
      refine wpAnyH_done (by kernel_rfl) ?_ _
      go_wp2_with fail
      go_ret
      exact ⟨rfl, t2.1⟩
    | true =>
      rw [gen_rest hk hd]
      rw [hd] at HV
      clear hd hk e1
      obtain ⟨k, hk⟩ : ∃ k, chk n [d0, d1, d2, d3, d4, d5, d6, d7] = k := ⟨_, rfl⟩
      rw [hk] at HT ⊢
      clear hk
      go_enter Tryz.func13, Tryz.ntmps13
      go_wp2_with fail
      refine wp_region_held (S := (fun w' : World => Below w.heap.size w w' ∧ w'.cell? ⟨g, 0, none⟩ = some (.int .i64 n) ∧ w'.cell? ⟨g, 1, none⟩ = some (.int .u8 d0) ∧ w'.cell? ⟨g, 2, none⟩ = some (.int .u8 d1) ∧ w'.cell? ⟨g, 3, none⟩ = some (.int .u8 d2) ∧ w'.cell? ⟨g, 4, none⟩ = some (.int .u8 d3) ∧ w'.cell? ⟨g, 5, none⟩ = some (.int .u8 d4) ∧ w'.cell? ⟨g, 6, none⟩ = some (.int .u8 d5) ∧ w'.cell? ⟨g, 7, none⟩ = some (.int .u8 d6) ∧ w'.cell? ⟨g, 8, none⟩ = some (.int .u8 d7) ∧ w'.cell? ⟨g, 9, none⟩ = some (.int .u16 c))) (by kernel_rfl) ?_
      change wpAnyH _ _ _ _ _ _ _ _ (World.drew _)
      have t0 : ((fun w' : World => Below w.heap.size w w' ∧ w'.cell? ⟨g, 0, none⟩ = some (.int .i64 n) ∧ w'.cell? ⟨g, 1, none⟩ = some (.int .u8 d0) ∧ w'.cell? ⟨g, 2, none⟩ = some (.int .u8 d1) ∧ w'.cell? ⟨g, 3, none⟩ = some (.int .u8 d2) ∧ w'.cell? ⟨g, 4, none⟩ = some (.int .u8 d3) ∧ w'.cell? ⟨g, 5, none⟩ = some (.int .u8 d4) ∧ w'.cell? ⟨g, 6, none⟩ = some (.int .u8 d5) ∧ w'.cell? ⟨g, 7, none⟩ = some (.int .u8 d6) ∧ w'.cell? ⟨g, 8, none⟩ = some (.int .u8 d7) ∧ w'.cell? ⟨g, 9, none⟩ = some (.int .u16 c))) _ := HS0.out
      refine wpAnyH_takeD (some 5) (i := 0) (v := ?_) rfl rfl (by kernel_rfl) (by kernel_rfl) (by kernel_rfl) (fun _ _ _ h => h) (.inl ⟨by kernel_rfl, ?_⟩) t0 ?_
      rotate_left
      · intro w' hw'; obtain ⟨hw1, hw2, hw3, hw4, hw5, hw6, hw7, hw8, hw9, hw10, hw11⟩ := hw'; go_simp; try with_reducible rfl
      try simp only [Act.put, List.setIfInBounds_toArray, List.set_cons_zero, List.set_cons_succ]
      refine wpAnyH_takeD (some 6) (i := 1) (v := ?_) rfl rfl (by kernel_rfl) (by kernel_rfl) (by kernel_rfl) (fun _ _ _ h => h) (.inl ⟨by kernel_rfl, ?_⟩) t0 ?_
      rotate_left
      · intro w' hw'; obtain ⟨hw1, hw2, hw3, hw4, hw5, hw6, hw7, hw8, hw9, hw10, hw11⟩ := hw'; go_simp; try with_reducible rfl
      try simp only [Act.put, List.setIfInBounds_toArray, List.set_cons_zero, List.set_cons_succ]
      refine wpAnyH_takeD (some 7) (i := 2) (v := ?_) rfl rfl (by kernel_rfl) (by kernel_rfl) (by kernel_rfl) (fun _ _ _ h => h) (.inl ⟨by kernel_rfl, ?_⟩) t0 ?_
      rotate_left
      · intro w' hw'; obtain ⟨hw1, hw2, hw3, hw4, hw5, hw6, hw7, hw8, hw9, hw10, hw11⟩ := hw'; go_simp; try with_reducible rfl
      try simp only [Act.put, List.setIfInBounds_toArray, List.set_cons_zero, List.set_cons_succ]
      refine wpAnyH_takeD (some 8) (i := 3) (v := ?_) rfl rfl (by kernel_rfl) (by kernel_rfl) (by kernel_rfl) (fun _ _ _ h => h) (.inl ⟨by kernel_rfl, ?_⟩) t0 ?_
      rotate_left
      · intro w' hw'; obtain ⟨hw1, hw2, hw3, hw4, hw5, hw6, hw7, hw8, hw9, hw10, hw11⟩ := hw'; go_simp; try with_reducible rfl
      try simp only [Act.put, List.setIfInBounds_toArray, List.set_cons_zero, List.set_cons_succ]
      refine wpAnyH_all (rs := [4]) (by kernel_rfl) (by simp) ?_
      intro i hi; simp only [List.mem_singleton] at hi; subst hi
      refine wpOp_step rfl (fun K hK => ?_)
      go_simp
      with_reducible refine (HN.out _ t0).mono ?_
      rintro e vt1 ⟨rfl, hvt1⟩
      have t1 := hvt1
      refine hK _ _ ⟨t1, ?_⟩
      try simp only [Act.put, List.setIfInBounds_toArray, List.set_cons_zero, List.set_cons_succ]
      refine wpAnyH_takeD (some 10) (i := 5) (v := ?_) rfl rfl (by kernel_rfl) (by kernel_rfl) (by kernel_rfl) (fun _ _ _ h => h) (.inl ⟨by kernel_rfl, ?_⟩) t1 ?_
      rotate_left
      · intro w' hw'; obtain ⟨hw1, hw2, hw3, hw4, hw5, hw6, hw7, hw8, hw9, hw10, hw11⟩ := hw'; go_simp; try with_reducible rfl
      try simp only [Act.put, List.setIfInBounds_toArray, List.set_cons_zero, List.set_cons_succ]
      refine wpAnyH_takeD (some 11) (i := 6) (v := ?_) rfl rfl (by kernel_rfl) (by kernel_rfl) (by kernel_rfl) (fun _ _ _ h => h) (.inl ⟨by kernel_rfl, ?_⟩) t1 ?_
      rotate_left
      · intro w' hw'; obtain ⟨hw1, hw2, hw3, hw4, hw5, hw6, hw7, hw8, hw9, hw10, hw11⟩ := hw'; go_simp; try with_reducible rfl
      try simp only [Act.put, List.setIfInBounds_toArray, List.set_cons_zero, List.set_cons_succ]
      refine wpAnyH_takeD (some 12) (i := 7) (v := ?_) rfl rfl (by kernel_rfl) (by kernel_rfl) (by kernel_rfl) (fun _ _ _ h => h) (.inl ⟨by kernel_rfl, ?_⟩) t1 ?_
      rotate_left
      · intro w' hw'; obtain ⟨hw1, hw2, hw3, hw4, hw5, hw6, hw7, hw8, hw9, hw10, hw11⟩ := hw'; go_simp; try with_reducible rfl
      try simp only [Act.put, List.setIfInBounds_toArray, List.set_cons_zero, List.set_cons_succ]
      refine wpAnyH_takeD (some 13) (i := 8) (v := ?_) rfl rfl (by kernel_rfl) (by kernel_rfl) (by kernel_rfl) (fun _ _ _ h => h) (.inl ⟨by kernel_rfl, ?_⟩) t1 ?_
      rotate_left
      · intro w' hw'; obtain ⟨hw1, hw2, hw3, hw4, hw5, hw6, hw7, hw8, hw9, hw10, hw11⟩ := hw'; go_simp; try with_reducible rfl
      try simp only [Act.put, List.setIfInBounds_toArray, List.set_cons_zero, List.set_cons_succ]
      refine wpAnyH_takeD (some 14) (i := 9) (v := ?_) rfl rfl (by kernel_rfl) (by kernel_rfl) (by kernel_rfl) (fun _ _ _ h => h) (.inl ⟨by kernel_rfl, ?_⟩) t1 ?_
      rotate_left
      · intro w' hw'; obtain ⟨hw1, hw2, hw3, hw4, hw5, hw6, hw7, hw8, hw9, hw10, hw11⟩ := hw'; go_simp; try with_reducible rfl
      try simp only [Act.put, List.setIfInBounds_toArray, List.set_cons_zero, List.set_cons_succ]
      refine wpAnyH_takeD (some 15) (i := 10) (v := ?_) rfl rfl (by kernel_rfl) (by kernel_rfl) (by kernel_rfl) (fun _ _ _ h => h) (.inl ⟨by kernel_rfl, ?_⟩) t1 ?_
      rotate_left
      · intro w' hw'; obtain ⟨hw1, hw2, hw3, hw4, hw5, hw6, hw7, hw8, hw9, hw10, hw11⟩ := hw'; go_simp; try with_reducible rfl
      try simp only [Act.put, List.setIfInBounds_toArray, List.set_cons_zero, List.set_cons_succ]
      refine wpAnyH_all (rs := [11]) (by kernel_rfl) (by simp) ?_
      intro i hi; simp only [List.mem_singleton] at hi; subst hi
      refine wpOp_step rfl (fun K hK => ?_)
      go_simp
      with_reducible refine (HV.out _ t1).mono ?_
      rintro e vt2 ⟨rfl, hvt2⟩
      have t2 := hvt2
      refine hK _ _ ⟨t2, ?_⟩
      try simp only [Act.put, List.setIfInBounds_toArray, List.set_cons_zero, List.set_cons_succ]
      refine wpAnyH_takeD (some 17) (i := 12) (v := ?_) rfl rfl (by kernel_rfl) (by kernel_rfl) (by kernel_rfl) (fun _ _ _ h => h) (.inl ⟨by kernel_rfl, ?_⟩) t2 ?_
      rotate_left
      · intro w' hw'; obtain ⟨hw1, hw2, hw3, hw4, hw5, hw6, hw7, hw8, hw9, hw10, hw11⟩ := hw'; go_simp; try with_reducible rfl
      try simp only [Act.put, List.setIfInBounds_toArray, List.set_cons_zero, List.set_cons_succ]
      refine wpAnyH_takeD (some 18) (i := 13) (v := ?_) rfl rfl (by kernel_rfl) (by kernel_rfl) (by kernel_rfl) (fun _ _ _ h => h) (.inl ⟨by kernel_rfl, ?_⟩) t2 ?_
      rotate_left
      · intro w' hw'; obtain ⟨hw1, hw2, hw3, hw4, hw5, hw6, hw7, hw8, hw9, hw10, hw11⟩ := hw'; go_simp; try with_reducible rfl
      try simp only [Act.put, List.setIfInBounds_toArray, List.set_cons_zero, List.set_cons_succ]
      refine wpAnyH_takeD (some 19) (i := 14) (v := ?_) rfl rfl (by kernel_rfl) (by kernel_rfl) (by kernel_rfl) (fun _ _ _ h => h) (.inl ⟨by kernel_rfl, ?_⟩) t2 ?_
      rotate_left
      · intro w' hw'; obtain ⟨hw1, hw2, hw3, hw4, hw5, hw6, hw7, hw8, hw9, hw10, hw11⟩ := hw'; go_simp; try with_reducible rfl
      try simp only [Act.put, List.setIfInBounds_toArray, List.set_cons_zero, List.set_cons_succ]
      refine wpAnyH_takeD (some 20) (i := 15) (v := ?_) rfl rfl (by kernel_rfl) (by kernel_rfl) (by kernel_rfl) (fun _ _ _ h => h) (.inl ⟨by kernel_rfl, ?_⟩) t2 ?_
      rotate_left
      · intro w' hw'; obtain ⟨hw1, hw2, hw3, hw4, hw5, hw6, hw7, hw8, hw9, hw10, hw11⟩ := hw'; go_simp; try with_reducible rfl
      try simp only [Act.put, List.setIfInBounds_toArray, List.set_cons_zero, List.set_cons_succ]
      refine wpAnyH_takeD (some 21) (i := 16) (v := ?_) rfl rfl (by kernel_rfl) (by kernel_rfl) (by kernel_rfl) (fun _ _ _ h => h) (.inl ⟨by kernel_rfl, ?_⟩) t2 ?_
      rotate_left
      · intro w' hw'; obtain ⟨hw1, hw2, hw3, hw4, hw5, hw6, hw7, hw8, hw9, hw10, hw11⟩ := hw'; go_simp; try with_reducible rfl
      try simp only [Act.put, List.setIfInBounds_toArray, List.set_cons_zero, List.set_cons_succ]
      refine wpAnyH_takeD (some 22) (i := 17) (v := ?_) rfl rfl (by kernel_rfl) (by kernel_rfl) (by kernel_rfl) (fun _ _ _ h => h) (.inl ⟨by kernel_rfl, ?_⟩) t2 ?_
      rotate_left
      · intro w' hw'; obtain ⟨hw1, hw2, hw3, hw4, hw5, hw6, hw7, hw8, hw9, hw10, hw11⟩ := hw'; go_simp; try with_reducible rfl
      try simp only [Act.put, List.setIfInBounds_toArray, List.set_cons_zero, List.set_cons_succ]
      refine wpAnyH_takeD (some 23) (i := 18) (v := ?_) rfl rfl (by kernel_rfl) (by kernel_rfl) (by kernel_rfl) (fun _ _ _ h => h) (.inl ⟨by kernel_rfl, ?_⟩) t2 ?_
      rotate_left
      · intro w' hw'; obtain ⟨hw1, hw2, hw3, hw4, hw5, hw6, hw7, hw8, hw9, hw10, hw11⟩ := hw'; go_simp; try with_reducible rfl
      try simp only [Act.put, List.setIfInBounds_toArray, List.set_cons_zero, List.set_cons_succ]
      refine wpAnyH_takeD (some 24) (i := 19) (v := ?_) rfl rfl (by kernel_rfl) (by kernel_rfl) (by kernel_rfl) (fun _ _ _ h => h) (.inl ⟨by kernel_rfl, ?_⟩) t2 ?_
      rotate_left
      · intro w' hw'; obtain ⟨hw1, hw2, hw3, hw4, hw5, hw6, hw7, hw8, hw9, hw10, hw11⟩ := hw'; go_simp; try with_reducible rfl
      try simp only [Act.put, List.setIfInBounds_toArray, List.set_cons_zero, List.set_cons_succ]
      refine wpAnyH_takeD (some 25) (i := 20) (v := ?_) rfl rfl (by kernel_rfl) (by kernel_rfl) (by kernel_rfl) (fun _ _ _ h => h) (.inl ⟨by kernel_rfl, ?_⟩) t2 ?_
      rotate_left
      · intro w' hw'; obtain ⟨hw1, hw2, hw3, hw4, hw5, hw6, hw7, hw8, hw9, hw10, hw11⟩ := hw'; go_simp; try with_reducible rfl
      try simp only [Act.put, List.setIfInBounds_toArray, List.set_cons_zero, List.set_cons_succ]
      refine wpAnyH_takeD (some 26) (i := 21) (v := ?_) rfl rfl (by kernel_rfl) (by kernel_rfl) (by kernel_rfl) (fun _ _ _ h => h) (.inl ⟨by kernel_rfl, ?_⟩) t2 ?_
      rotate_left
      · intro w' hw'; obtain ⟨hw1, hw2, hw3, hw4, hw5, hw6, hw7, hw8, hw9, hw10, hw11⟩ := hw'; go_simp; try with_reducible rfl
      try simp only [Act.put, List.setIfInBounds_toArray, List.set_cons_zero, List.set_cons_succ]
      refine wpAnyH_takeD (some 27) (i := 22) (v := ?_) rfl rfl (by kernel_rfl) (by kernel_rfl) (by kernel_rfl) (fun _ _ _ h => h) (.inl ⟨by kernel_rfl, ?_⟩) t2 ?_
      rotate_left
      · intro w' hw'; obtain ⟨hw1, hw2, hw3, hw4, hw5, hw6, hw7, hw8, hw9, hw10, hw11⟩ := hw'; go_simp; try with_reducible rfl
      try simp only [Act.put, List.setIfInBounds_toArray, List.set_cons_zero, List.set_cons_succ]
      refine wpAnyH_takeD (some 28) (i := 23) (v := ?_) rfl rfl (by kernel_rfl) (by kernel_rfl) (by kernel_rfl) (fun _ _ _ h => h) (.inl ⟨by kernel_rfl, ?_⟩) t2 ?_
      rotate_left
      · intro w' hw'; obtain ⟨hw1, hw2, hw3, hw4, hw5, hw6, hw7, hw8, hw9, hw10, hw11⟩ := hw'; go_simp; try with_reducible rfl
      try simp only [Act.put, List.setIfInBounds_toArray, List.set_cons_zero, List.set_cons_succ]
      refine wpAnyH_takeD (some 29) (i := 24) (v := ?_) rfl rfl (by kernel_rfl) (by kernel_rfl) (by kernel_rfl) (fun _ _ _ h => h) (.inl ⟨by kernel_rfl, ?_⟩) t2 ?_
      rotate_left
      · intro w' hw'; obtain ⟨hw1, hw2, hw3, hw4, hw5, hw6, hw7, hw8, hw9, hw10, hw11⟩ := hw'; go_simp; try with_reducible rfl
      try simp only [Act.put, List.setIfInBounds_toArray, List.set_cons_zero, List.set_cons_succ]
      refine wpAnyH_takeD (some 30) (i := 25) (v := ?_) rfl rfl (by kernel_rfl) (by kernel_rfl) (by kernel_rfl) (fun _ _ _ h => h) (.inl ⟨by kernel_rfl, ?_⟩) t2 ?_
      rotate_left
      · intro w' hw'; obtain ⟨hw1, hw2, hw3, hw4, hw5, hw6, hw7, hw8, hw9, hw10, hw11⟩ := hw'; go_simp; try with_reducible rfl
      try simp only [Act.put, List.setIfInBounds_toArray, List.set_cons_zero, List.set_cons_succ]
      refine wpAnyH_all (rs := [26]) (by kernel_rfl) (by simp) ?_
      intro i hi; simp only [List.mem_singleton] at hi; subst hi
      refine wpOp_step rfl (fun K hK => ?_)
      go_simp
      with_reducible refine (HT.out _ t2).mono ?_
      rintro e vt3 ⟨rfl, hvt3⟩
      have t3 := hvt3
      refine hK _ _ ⟨t3, ?_⟩
      try simp only [Act.put, List.setIfInBounds_toArray, List.set_cons_zero, List.set_cons_succ]
      refine wpAnyH_takeD (some 32) (i := 27) (v := ?_) rfl rfl (by kernel_rfl) (by kernel_rfl) (by kernel_rfl) (fun _ _ _ h => h) (.inl ⟨by kernel_rfl, ?_⟩) t3 ?_
      rotate_left
      · intro w' hw'; obtain ⟨hw1, hw2, hw3, hw4, hw5, hw6, hw7, hw8, hw9, hw10, hw11⟩ := hw'; go_simp; try with_reducible rfl
      try simp only [Act.put, List.setIfInBounds_toArray, List.set_cons_zero, List.set_cons_succ]
      refine wpAnyH_takeD (some 33) (i := 28) (v := ?_) rfl rfl (by kernel_rfl) (by kernel_rfl) (by kernel_rfl) (fun _ _ _ h => h) (.inl ⟨by kernel_rfl, ?_⟩) t3 ?_
      rotate_left
      · intro w' hw'; obtain ⟨hw1, hw2, hw3, hw4, hw5, hw6, hw7, hw8, hw9, hw10, hw11⟩ := hw'; go_simp; try with_reducible rfl
      try simp only [Act.put, List.setIfInBounds_toArray, List.set_cons_zero, List.set_cons_succ]
      refine wpAnyH_takeD (some 4) (i := 29) (v := ?_) rfl rfl (by kernel_rfl) (by kernel_rfl) (by kernel_rfl) (fun _ _ _ h => h) (.inl ⟨by kernel_rfl, ?_⟩) t3 ?_
      rotate_left
      · intro w' hw'; obtain ⟨hw1, hw2, hw3, hw4, hw5, hw6, hw7, hw8, hw9, hw10, hw11⟩ := hw'; go_simp; try with_reducible rfl
      try simp only [Act.put, List.setIfInBounds_toArray, List.set_cons_zero, List.set_cons_succ]
      refine wpAnyH_done (by kernel_rfl) ?_ _
      go_wp2_with fail
      go_ret
      exact ⟨rfl, t3.1⟩
  · have e1 : (decide (1 ≤ n) && decide (n ≤ 1000000)) = false := by simpa using fun a => by omega
    rw [e1] at HN
    rw [gen_number hk]
    clear hk e1
    go_enter Tryz.func13, Tryz.ntmps13
    go_wp2_with fail
    refine wp_region_held (S := (fun w' : World => Below w.heap.size w w' ∧ w'.cell? ⟨g, 0, none⟩ = some (.int .i64 n) ∧ w'.cell? ⟨g, 1, none⟩ = some (.int .u8 d0) ∧ w'.cell? ⟨g, 2, none⟩ = some (.int .u8 d1) ∧ w'.cell? ⟨g, 3, none⟩ = some (.int .u8 d2) ∧ w'.cell? ⟨g, 4, none⟩ = some (.int .u8 d3) ∧ w'.cell? ⟨g, 5, none⟩ = some (.int .u8 d4) ∧ w'.cell? ⟨g, 6, none⟩ = some (.int .u8 d5) ∧ w'.cell? ⟨g, 7, none⟩ = some (.int .u8 d6) ∧ w'.cell? ⟨g, 8, none⟩ = some (.int .u8 d7) ∧ w'.cell? ⟨g, 9, none⟩ = some (.int .u16 c))) (by kernel_rfl) ?_
    change wpAnyH _ _ _ _ _ _ _ _ (World.drew _)
    have t0 : ((fun w' : World => Below w.heap.size w w' ∧ w'.cell? ⟨g, 0, none⟩ = some (.int .i64 n) ∧ w'.cell? ⟨g, 1, none⟩ = some (.int .u8 d0) ∧ w'.cell? ⟨g, 2, none⟩ = some (.int .u8 d1) ∧ w'.cell? ⟨g, 3, none⟩ = some (.int .u8 d2) ∧ w'.cell? ⟨g, 4, none⟩ = some (.int .u8 d3) ∧ w'.cell? ⟨g, 5, none⟩ = some (.int .u8 d4) ∧ w'.cell? ⟨g, 6, none⟩ = some (.int .u8 d5) ∧ w'.cell? ⟨g, 7, none⟩ = some (.int .u8 d6) ∧ w'.cell? ⟨g, 8, none⟩ = some (.int .u8 d7) ∧ w'.cell? ⟨g, 9, none⟩ = some (.int .u16 c))) _ := HS0.out
    refine wpAnyH_takeD (some 5) (i := 0) (v := ?_) rfl rfl (by kernel_rfl) (by kernel_rfl) (by kernel_rfl) (fun _ _ _ h => h) (.inl ⟨by kernel_rfl, ?_⟩) t0 ?_
    rotate_left
    · intro w' hw'; obtain ⟨hw1, hw2, hw3, hw4, hw5, hw6, hw7, hw8, hw9, hw10, hw11⟩ := hw'; go_simp; try with_reducible rfl
    try simp only [Act.put, List.setIfInBounds_toArray, List.set_cons_zero, List.set_cons_succ]
    refine wpAnyH_takeD (some 6) (i := 1) (v := ?_) rfl rfl (by kernel_rfl) (by kernel_rfl) (by kernel_rfl) (fun _ _ _ h => h) (.inl ⟨by kernel_rfl, ?_⟩) t0 ?_
    rotate_left
    · intro w' hw'; obtain ⟨hw1, hw2, hw3, hw4, hw5, hw6, hw7, hw8, hw9, hw10, hw11⟩ := hw'; go_simp; try with_reducible rfl
    try simp only [Act.put, List.setIfInBounds_toArray, List.set_cons_zero, List.set_cons_succ]
    refine wpAnyH_takeD (some 7) (i := 2) (v := ?_) rfl rfl (by kernel_rfl) (by kernel_rfl) (by kernel_rfl) (fun _ _ _ h => h) (.inl ⟨by kernel_rfl, ?_⟩) t0 ?_
    rotate_left
    · intro w' hw'; obtain ⟨hw1, hw2, hw3, hw4, hw5, hw6, hw7, hw8, hw9, hw10, hw11⟩ := hw'; go_simp; try with_reducible rfl
    try simp only [Act.put, List.setIfInBounds_toArray, List.set_cons_zero, List.set_cons_succ]
    refine wpAnyH_takeD (some 8) (i := 3) (v := ?_) rfl rfl (by kernel_rfl) (by kernel_rfl) (by kernel_rfl) (fun _ _ _ h => h) (.inl ⟨by kernel_rfl, ?_⟩) t0 ?_
    rotate_left
    · intro w' hw'; obtain ⟨hw1, hw2, hw3, hw4, hw5, hw6, hw7, hw8, hw9, hw10, hw11⟩ := hw'; go_simp; try with_reducible rfl
    try simp only [Act.put, List.setIfInBounds_toArray, List.set_cons_zero, List.set_cons_succ]
    refine wpAnyH_all (rs := [4]) (by kernel_rfl) (by simp) ?_
    intro i hi; simp only [List.mem_singleton] at hi; subst hi
    refine wpOp_step rfl (fun K hK => ?_)
    go_simp
    with_reducible refine (HN.out _ t0).mono ?_
    rintro e vt1 ⟨rfl, hvt1⟩
    have t1 := hvt1
    refine hK _ _ ⟨t1, ?_⟩
    try simp only [Act.put, List.setIfInBounds_toArray, List.set_cons_zero, List.set_cons_succ]
    refine wpAnyH_takeD (some 10) (i := 5) (v := ?_) rfl rfl (by kernel_rfl) (by kernel_rfl) (by kernel_rfl) (fun _ _ _ h => h) (.inl ⟨by kernel_rfl, ?_⟩) t1 ?_
    rotate_left
    · intro w' hw'; obtain ⟨hw1, hw2, hw3, hw4, hw5, hw6, hw7, hw8, hw9, hw10, hw11⟩ := hw'; go_simp; try with_reducible rfl
    try simp only [Act.put, List.setIfInBounds_toArray, List.set_cons_zero, List.set_cons_succ]
    refine wpAnyH_takeD (some 11) (i := 6) (v := undef) rfl rfl (by kernel_rfl) (by kernel_rfl) (by kernel_rfl) (fun _ _ _ h => h) (.inr ⟨by kernel_rfl, rfl⟩) t1 ?_
    try simp only [Act.put, List.setIfInBounds_toArray, List.set_cons_zero, List.set_cons_succ]
    refine wpAnyH_takeD (some 12) (i := 7) (v := undef) rfl rfl (by kernel_rfl) (by kernel_rfl) (by kernel_rfl) (fun _ _ _ h => h) (.inr ⟨by kernel_rfl, rfl⟩) t1 ?_
    try simp only [Act.put, List.setIfInBounds_toArray, List.set_cons_zero, List.set_cons_succ]
    refine wpAnyH_takeD (some 13) (i := 8) (v := undef) rfl rfl (by kernel_rfl) (by kernel_rfl) (by kernel_rfl) (fun _ _ _ h => h) (.inr ⟨by kernel_rfl, rfl⟩) t1 ?_
    try simp only [Act.put, List.setIfInBounds_toArray, List.set_cons_zero, List.set_cons_succ]
    refine wpAnyH_takeD (some 14) (i := 9) (v := undef) rfl rfl (by kernel_rfl) (by kernel_rfl) (by kernel_rfl) (fun _ _ _ h => h) (.inr ⟨by kernel_rfl, rfl⟩) t1 ?_
    try simp only [Act.put, List.setIfInBounds_toArray, List.set_cons_zero, List.set_cons_succ]
    refine wpAnyH_takeD (some 15) (i := 10) (v := undef) rfl rfl (by kernel_rfl) (by kernel_rfl) (by kernel_rfl) (fun _ _ _ h => h) (.inr ⟨by kernel_rfl, rfl⟩) t1 ?_
    try simp only [Act.put, List.setIfInBounds_toArray, List.set_cons_zero, List.set_cons_succ]
    refine wpAnyH_takeD (some 16) (i := 11) (v := undef) rfl rfl (by kernel_rfl) (by kernel_rfl) (by kernel_rfl) (fun _ _ _ h => h) (.inr ⟨by kernel_rfl, rfl⟩) t1 ?_
    try simp only [Act.put, List.setIfInBounds_toArray, List.set_cons_zero, List.set_cons_succ]
    refine wpAnyH_takeD (some 17) (i := 12) (v := ?_) rfl rfl (by kernel_rfl) (by kernel_rfl) (by kernel_rfl) (fun _ _ _ h => h) (.inl ⟨by kernel_rfl, ?_⟩) t1 ?_
    rotate_left
    · intro w' hw'; obtain ⟨hw1, hw2, hw3, hw4, hw5, hw6, hw7, hw8, hw9, hw10, hw11⟩ := hw'; go_simp; try with_reducible rfl
    try simp only [Act.put, List.setIfInBounds_toArray, List.set_cons_zero, List.set_cons_succ]
    refine wpAnyH_takeD (some 18) (i := 13) (v := ?_) rfl rfl (by kernel_rfl) (by kernel_rfl) (by kernel_rfl) (fun _ _ _ h => h) (.inl ⟨by kernel_rfl, ?_⟩) t1 ?_
    rotate_left
    · intro w' hw'; obtain ⟨hw1, hw2, hw3, hw4, hw5, hw6, hw7, hw8, hw9, hw10, hw11⟩ := hw'; go_simp; try with_reducible rfl
    try simp only [Act.put, List.setIfInBounds_toArray, List.set_cons_zero, List.set_cons_succ]
    refine wpAnyH_takeD (some 19) (i := 14) (v := undef) rfl rfl (by kernel_rfl) (by kernel_rfl) (by kernel_rfl) (fun _ _ _ h => h) (.inr ⟨by kernel_rfl, rfl⟩) t1 ?_
    try simp only [Act.put, List.setIfInBounds_toArray, List.set_cons_zero, List.set_cons_succ]
    refine wpAnyH_takeD (some 20) (i := 15) (v := undef) rfl rfl (by kernel_rfl) (by kernel_rfl) (by kernel_rfl) (fun _ _ _ h => h) (.inr ⟨by kernel_rfl, rfl⟩) t1 ?_
    try simp only [Act.put, List.setIfInBounds_toArray, List.set_cons_zero, List.set_cons_succ]
    refine wpAnyH_takeD (some 21) (i := 16) (v := undef) rfl rfl (by kernel_rfl) (by kernel_rfl) (by kernel_rfl) (fun _ _ _ h => h) (.inr ⟨by kernel_rfl, rfl⟩) t1 ?_
    try simp only [Act.put, List.setIfInBounds_toArray, List.set_cons_zero, List.set_cons_succ]
    refine wpAnyH_takeD (some 22) (i := 17) (v := undef) rfl rfl (by kernel_rfl) (by kernel_rfl) (by kernel_rfl) (fun _ _ _ h => h) (.inr ⟨by kernel_rfl, rfl⟩) t1 ?_
    try simp only [Act.put, List.setIfInBounds_toArray, List.set_cons_zero, List.set_cons_succ]
    refine wpAnyH_takeD (some 23) (i := 18) (v := undef) rfl rfl (by kernel_rfl) (by kernel_rfl) (by kernel_rfl) (fun _ _ _ h => h) (.inr ⟨by kernel_rfl, rfl⟩) t1 ?_
    try simp only [Act.put, List.setIfInBounds_toArray, List.set_cons_zero, List.set_cons_succ]
    refine wpAnyH_takeD (some 24) (i := 19) (v := undef) rfl rfl (by kernel_rfl) (by kernel_rfl) (by kernel_rfl) (fun _ _ _ h => h) (.inr ⟨by kernel_rfl, rfl⟩) t1 ?_
    try simp only [Act.put, List.setIfInBounds_toArray, List.set_cons_zero, List.set_cons_succ]
    refine wpAnyH_takeD (some 25) (i := 20) (v := undef) rfl rfl (by kernel_rfl) (by kernel_rfl) (by kernel_rfl) (fun _ _ _ h => h) (.inr ⟨by kernel_rfl, rfl⟩) t1 ?_
    try simp only [Act.put, List.setIfInBounds_toArray, List.set_cons_zero, List.set_cons_succ]
    refine wpAnyH_takeD (some 26) (i := 21) (v := undef) rfl rfl (by kernel_rfl) (by kernel_rfl) (by kernel_rfl) (fun _ _ _ h => h) (.inr ⟨by kernel_rfl, rfl⟩) t1 ?_
    try simp only [Act.put, List.setIfInBounds_toArray, List.set_cons_zero, List.set_cons_succ]
    refine wpAnyH_takeD (some 27) (i := 22) (v := undef) rfl rfl (by kernel_rfl) (by kernel_rfl) (by kernel_rfl) (fun _ _ _ h => h) (.inr ⟨by kernel_rfl, rfl⟩) t1 ?_
    try simp only [Act.put, List.setIfInBounds_toArray, List.set_cons_zero, List.set_cons_succ]
    refine wpAnyH_takeD (some 28) (i := 23) (v := undef) rfl rfl (by kernel_rfl) (by kernel_rfl) (by kernel_rfl) (fun _ _ _ h => h) (.inr ⟨by kernel_rfl, rfl⟩) t1 ?_
    try simp only [Act.put, List.setIfInBounds_toArray, List.set_cons_zero, List.set_cons_succ]
    refine wpAnyH_takeD (some 29) (i := 24) (v := undef) rfl rfl (by kernel_rfl) (by kernel_rfl) (by kernel_rfl) (fun _ _ _ h => h) (.inr ⟨by kernel_rfl, rfl⟩) t1 ?_
    try simp only [Act.put, List.setIfInBounds_toArray, List.set_cons_zero, List.set_cons_succ]
    refine wpAnyH_takeD (some 30) (i := 25) (v := undef) rfl rfl (by kernel_rfl) (by kernel_rfl) (by kernel_rfl) (fun _ _ _ h => h) (.inr ⟨by kernel_rfl, rfl⟩) t1 ?_
    try simp only [Act.put, List.setIfInBounds_toArray, List.set_cons_zero, List.set_cons_succ]
    refine wpAnyH_takeD (some 31) (i := 26) (v := undef) rfl rfl (by kernel_rfl) (by kernel_rfl) (by kernel_rfl) (fun _ _ _ h => h) (.inr ⟨by kernel_rfl, rfl⟩) t1 ?_
    try simp only [Act.put, List.setIfInBounds_toArray, List.set_cons_zero, List.set_cons_succ]
    refine wpAnyH_takeD (some 32) (i := 27) (v := undef) rfl rfl (by kernel_rfl) (by kernel_rfl) (by kernel_rfl) (fun _ _ _ h => h) (.inr ⟨by kernel_rfl, rfl⟩) t1 ?_
    try simp only [Act.put, List.setIfInBounds_toArray, List.set_cons_zero, List.set_cons_succ]
    refine wpAnyH_takeD (some 33) (i := 28) (v := ?_) rfl rfl (by kernel_rfl) (by kernel_rfl) (by kernel_rfl) (fun _ _ _ h => h) (.inl ⟨by kernel_rfl, ?_⟩) t1 ?_
    rotate_left
    · intro w' hw'; obtain ⟨hw1, hw2, hw3, hw4, hw5, hw6, hw7, hw8, hw9, hw10, hw11⟩ := hw'; go_simp; try with_reducible rfl
    try simp only [Act.put, List.setIfInBounds_toArray, List.set_cons_zero, List.set_cons_succ]
    refine wpAnyH_takeD (some 4) (i := 29) (v := ?_) rfl rfl (by kernel_rfl) (by kernel_rfl) (by kernel_rfl) (fun _ _ _ h => h) (.inl ⟨by kernel_rfl, ?_⟩) t1 ?_
    rotate_left
    · intro w' hw'; obtain ⟨hw1, hw2, hw3, hw4, hw5, hw6, hw7, hw8, hw9, hw10, hw11⟩ := hw'; go_simp; try with_reducible rfl
    try simp only [Act.put, List.setIfInBounds_toArray, List.set_cons_zero, List.set_cons_succ]
    refine wpAnyH_done (by kernel_rfl) ?_ _
    go_wp2_with fail
    go_ret
    exact ⟨rfl, t1.1⟩
/-- whether a ticket is genuine, with a code -/
def genR (zs ds : List Int) (n c : Int) : Bool × Int := if okL zs then (gen zs ds n c, 0) else (false, 1)
theorem genR_no {zs ds : List Int} {n c : Int} (h : okL zs = false) : genR zs ds n c = (false, 1) := by simp [genR, h]
theorem genR_yes {zs ds : List Int} {n c : Int} (h : okL zs = true) : genR zs ds n c = (gen zs ds n c, 0) := by simp [genR, h]
end Go.Proofs.YtcbhlljgcndhdaaGreatDoor
