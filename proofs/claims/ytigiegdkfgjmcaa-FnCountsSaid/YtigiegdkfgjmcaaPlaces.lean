/- The iterator over a stack's wheels, and the functions that range over it: place, cycle, size. -/
import Derived.RangeFuncNested
import Derived.RangeFuncBound
import Derived.RangeFuncCalls
import Derived.RangeFuncLeaves
import Derived.RangeFuncBox
import Derived.Shelf.Abstract
import Derived.Shelf.RegionOpen
import Derived.OwnWalkIn
import Derived.TacticsInMore
import Derived.LoopNIn
import Derived.LoopIn
import Derived.Test.YtigiegdkfgjmcaaValid
namespace Go.Proofs.Ytigiegdkfgjmcaa
open Go.RowKit Go.Shelf

attribute [local go_sem] Oper.semAt_some

set_option maxRecDepth 100000 in
set_option maxHeartbeats 2000000 in
/-- the closure: each wheel with its place, one after the other, for every body that keeps what lay below n₀ -/
theorem places1_in (F : Fence) (m : Nat) (hf : F.fn 55) (hro : F.round = none) (hm : 1 ≤ m) (l Bs n₀ b n cap : Nat) (zs : List Int) (hn : n = zs.length) (h8 : n ≤ 8) (hin : inB zs n) (hb : b < n₀) (J Jx : List (Fin n) → World → Prop)
    (hY : ∀ pre (x : Fin n) W, J pre W → pre.length < n → YieldAt F (m - 1) Try.prog l #[.int .i64 (x.1 : Int), .int .i64 (szL (zs.take x.1))] W fun e W' =>
      (e = .returned (.bool true) ∧ J (pre ++ [x]) W' ∧ Below n₀ W W') ∨ (e = .returned (.bool false) ∧ Jx (pre ++ [x]) W'))
    (W : World) (hBs : W.cell? ⟨Bs, 0, none⟩ = some (.slice (some ⟨b, 0, none⟩) n cap)) (hc : ∀ j, j < n → W.cell? ⟨b, j, none⟩ = some (.int .u8 (zs[j]?.getD 0))) (h0 : J [] W) :
    CallsIn F m Try.prog 55 #[.func (.yield l) #[] #[], .pointer (some ⟨Bs, 0, none⟩)] W fun e W' => (∃ v, e = .returned v) ∧
      ((∃ ys, ys = List.finRange n ∧ J ys W') ∨ (∃ pre, (∃ k, k ≤ n ∧ pre = (List.finRange n).take k) ∧ Jx pre W')) := by
  have hN := hid hn
  have hI := hid hin
  have hC := hid hc
  clear hn hin hc
  refine callsIn_of_wp Try.func55 rfl hf ?_ hro
  simp only [Try.ntmps55, List.size_toArray, List.length_cons, List.length_nil, Nat.reduceAdd, Nat.reduceSub, Array.replicate_succ, Array.replicate_zero, List.push_toArray, List.append_toArray, List.nil_append, List.cons_append]
  gi_wp2
  gi_loopw [3, 8] (fun p i wr => ∃ k : Nat, k ≤ n ∧ i = .int .i64 k ∧ p = .int .i64 (szL (zs.take k)) ∧ J ((List.finRange n).take k) wr ∧ Below n₀ W wr)
    (fun _ i _ => n - (intOf i).toNat)
  case atStart => exact ⟨0, Nat.zero_le _, rfl, rfl, h0, Below.refl _ _⟩
  case round =>
    obtain ⟨k, hk, rfl, rfl, hJs, hnx⟩ := hrel
    by_cases hlt : k < n
    · have hcx := (hnx.cell (p := ⟨b, k, none⟩) hb).trans (hC.out k hlt)
      have hzb := hI.out k hlt
      obtain ⟨s1, s2, s3, s4⟩ := szL_step zs k (by rw [← hN.out]; exact hlt) (by rw [← hN.out]; exact h8) (fun j hj => hI.out j (by omega))
      have HT := hid (szL_take zs k (by rw [← hN.out]; exact hlt))
      obtain ⟨fn, tmps, assign, body, hy, hR⟩ := hY _ ⟨k, hlt⟩ wr hJs (by rw [finTake_length n k hk]; exact hlt)
      have hlen := hid (finTake_succ n k hlt)
      dsimp only at hy
      obtain ⟨p, hp⟩ : ∃ p, p = szL (zs.take k) := ⟨_, rfl⟩
      obtain ⟨z, hz⟩ : ∃ z, z = zs[k]?.getD 0 := ⟨_, rfl⟩
      rw [← hp, ← hz] at HT s3 s4
      rw [← hp] at s1 s2 hy ⊢
      rw [← hz] at hcx hzb
      have hp' := hid hp; have hz' := hid hz
      clear hp hz
      gi_wp2
      refine hR.mono ?_
      rintro e W3 (⟨rfl, hJ3, hk3⟩ | ⟨rfl, hJx3⟩)
      · gi_wp2
        go_roundw
        case rel => exact ⟨k + 1, by omega, by simp, by rw [HT.out], by rw [hlen.out]; exact hJ3, hnx.trans hk3⟩
        case measure => simp [intOf]; omega
      · gi_wp2
        refine bodyPost_ret (results_none rfl _ _ _) rfl ?_
        exact ⟨⟨_, rfl⟩, .inr ⟨_, ⟨k + 1, by omega, hlen.out.symm⟩, hJx3⟩⟩
    · obtain rfl : k = n := by omega
      gi_wp2
      go_end0
      exact ⟨⟨_, rfl⟩, .inl ⟨_, (finTake_all k), hJs⟩⟩

set_option maxHeartbeats 1000000 in
theorem places_in (F : Fence) (m : Nat) (hf : F.fn 39) (hro : F.round = none) (a : Option Addr) (len cap : Nat) (w : World) :
    CallsIn F m Try.prog 39 #[.slice a len cap] w fun e w' => e = .returned (.func (.func 55) #[] #[.pointer (some ⟨w.heap.size, 0, none⟩)]) ∧ w' = w.alloc (.cells #[.slice a len cap] 24) := by
  refine callsIn_of_wp Try.func39 rfl hf ?_ hro
  simp only [Try.ntmps39, List.size_toArray, List.length_cons, List.length_nil, Nat.reduceAdd, Nat.reduceSub, Array.replicate_succ, Array.replicate_zero, List.push_toArray, List.append_toArray, List.nil_append, List.cons_append]
  gi_wp2
  go_ret
  exact ⟨rfl, rfl⟩

theorem places_stops (F : Fence) (m : Nat) (hf : F.fn 55) (hro : F.round = none) (hm : 1 ≤ m) (Bs n₀ b n cap : Nat) (zs : List Int) (hn : n = zs.length) (h8 : n ≤ 8) (hin : inB zs n) (w : World) (hBs : Bs < w.heap.size) (hn₀ : n₀ ≤ w.heap.size) (hb : b < n₀)
    (hc : w.cell? ⟨Bs, 0, none⟩ = some (.slice (some ⟨b, 0, none⟩) n cap)) (hI : ∀ j, j < n → w.cell? ⟨b, j, none⟩ = some (.int .u8 (zs[j]?.getD 0))) :
    SeqStopsK F m Try.prog 55 #[.pointer (some ⟨Bs, 0, none⟩)] (fun x : Fin n => #[Value.int .i64 (x.1 : Int), Value.int .i64 (szL (zs.take x.1))]) (Below n₀) (fun ys => ys = List.finRange n)
      (fun pre => ∃ k, k ≤ n ∧ pre = (List.finRange n).take k) n w := fun l J Jx W hW _ _ hY h0 => by
  have hc' := (hW.cell (p := ⟨Bs, 0, none⟩) hBs).trans hc
  exact places1_in F m hf hro hm l Bs n₀ b n cap zs hn h8 hin hb J Jx hY W hc' (fun j hj => (hW.cell (p := ⟨b, j, none⟩) (by show b < _; omega)).trans (hI j hj)) h0

set_option maxRecDepth 100000 in
set_option maxHeartbeats 4000000 in
/-- impl.place of a wheel that is there: the product of the bases before it -/
theorem place_in (F : Fence) (m : Nat) (hf1 : F.fn 45) (hf2 : F.fn 39) (hf3 : F.fn 55) (hro : F.round = none) (hm : 3 ≤ m)
    (b n cap k : Nat) (zs : List Int) (hn : n = zs.length) (h8 : n ≤ 8) (hin : inB zs n) (hk : k < n) (w : World) (hS : Stk w b zs) :
    CallsIn F m Try.prog 45 #[.slice (some ⟨b, 0, none⟩) n cap, .int .i64 (k : Int)] w fun e W' => e = .returned (.int .i64 (szL (zs.take k))) ∧ Below w.heap.size w W' := by
  have h1 : 1 ≤ m := by omega
  have hlt := hS.1
  have hC := hid hS.2.1
  have hI := hid hin
  have hN := hid hn
  clear hS hin hn
  refine callsIn_of_wp_marks Try.func45 rfl hf1 ?_ hro
  simp only [Try.ntmps45, List.size_toArray, List.length_cons, List.length_nil, Nat.reduceAdd, Nat.reduceSub, Array.replicate_succ, Array.replicate_zero, List.push_toArray, List.append_toArray, List.nil_append, List.cons_append]
  gi_wp2_with (gi_at_call 39; refine (places_in F (m - 1) hf2 hro _ _ _ _).mono ?_; rintro e w' ⟨rfl, rfl⟩)
  have bK := Boxed.new w 2 (.int .i64 (k : Int))
  have bR := Boxed.new (w.alloc (.cells #[.int .i64 (k : Int)] 2)) 2 (.int .i64 0)
  have bN := Boxed.new ((w.alloc (.cells #[.int .i64 (k : Int)] 2)).alloc (.cells #[.int .i64 0] 2)) 24 (.slice (some ⟨b, 0, none⟩) n cap)
  rw [World.size_alloc] at bR
  rw [World.size_alloc, World.size_alloc] at bN
  have hB0 : Below w.heap.size w (((w.alloc (.cells #[.int .i64 (k : Int)] 2)).alloc (.cells #[.int .i64 0] 2)).alloc (.cells #[.slice (some ⟨b, 0, none⟩) n cap] 24)) := (((Below.refl _ w).alloc (Nat.le_refl _) _).alloc (by simp) _).alloc (by simp; omega) _
  refine wpIn_rangeFunc_ownG hro h1 (gf := 55) (lb := #[.pointer (some ⟨w.heap.size + 1 + 1, 0, none⟩)]) rfl hf3 (enters_of Try.func55 (by kernel_rfl) rfl)
    (places_stops F (m - 1) hf3 hro (by omega) (w.heap.size + 1 + 1) w.heap.size b n cap zs hN.out h8 hI.out _ (by simp) (by simp; omega) hlt bN.cell (fun j hj => (hB0.cell (p := ⟨b, j, none⟩) hlt).trans (hC.out j (by rw [← hN.out]; exact hj)))) belowK_t (belowK_b (by simp; omega)) (Below.refl _ _) (fun _ => rfl)
    (fun pre W => ((∀ x ∈ pre, x.1 ≠ k) ∧ (W.cell? ⟨w.heap.size + 1, 0, none⟩ = some (.int .i64 0) ∧ W.frozen? ⟨w.heap.size + 1, 0, none⟩ = false) ∧ W.cell? ⟨w.heap.size, 0, none⟩ = some (.int .i64 (k : Int))) ∧ Below w.heap.size w W)
    (fun c pre W => (c = .ret ∧ W.cell? ⟨w.heap.size + 1, 0, none⟩ = some (.int .i64 (szL (zs.take k)))) ∧ Below w.heap.size w W)
    (OwnFrom.and (Own.from (fun s A B row hs hg hr => ⟨hs.1, ⟨cell_kept hs.2.1.1 hg hr, (frozen_kept hs.2.1.1 hg hr).trans hs.2.1.2⟩, cell_kept hs.2.2 hg hr⟩) _) (ownFrom_below (Nat.le_refl _) (by simp; omega)))
    (fun c => OwnFrom.and (Own.from (fun s A B row hs hg hr => ⟨hs.1, cell_kept hs.2 hg hr⟩) _) (ownFrom_below (Nat.le_refl _) (by simp; omega)))
    ⟨⟨by simp, ⟨(bR.alloc _).cell, (bR.alloc _).frozen⟩, ((bK.alloc _).alloc _).cell⟩, hB0⟩
    (fun x => { tmps := #[.slice (some ⟨b, 0, none⟩) n cap, .int .i64 (k : Int), undef, .pointer (some ⟨w.heap.size, 0, none⟩), .pointer (some ⟨w.heap.size + 1, 0, none⟩), .int .i64 (x.1 : Int), .int .i64 (szL (zs.take x.1)), .slice (some ⟨b, 0, none⟩) n cap, .func (.func 55) #[] #[.pointer (some ⟨w.heap.size + 1 + 1, 0, none⟩)], .int .i64 (x.1 : Int), .int .i64 (szL (zs.take x.1)), undef, undef, undef, undef], defers := [] }) ?assign ?body ?done ?stop
  case assign =>
    intro l x W K hK
    gi_wp2
    exact hK
  case body =>
    rintro l pre x W ⟨⟨hp, ⟨hcr, hfr⟩, hck⟩, hB⟩ _
    by_cases hx : x.1 = k
    · have he : ((x.1 : Int) == (k : Int)) = true := by simp [hx]
      have hX := hid hx
      clear hx
      gi_wp2
      exact ⟨(KeepsOthers.setCell _ _ _).from _, ⟨rfl, by rw [World.cell?_setCell_same' _ _ _ (by rw [hcr]; rfl), hX.out]⟩, hB.setCell (p := ⟨w.heap.size + 1, 0, none⟩) (by show _ ≤ w.heap.size + 1; omega) _⟩
    · have he : ((x.1 : Int) == (k : Int)) = false := by simp; omega
      have hX := hid hx
      clear hx
      gi_wp2
      exact ⟨KeepsFrom.refl _ _, Below.refl _ _, ⟨fun p hp' => (List.mem_append.1 hp').elim (hp p) (fun e => by simp at e; subst e; exact hX.out), ⟨hcr, hfr⟩, hck⟩, hB⟩
  case done =>
    rintro D ys W hD rfl ⟨⟨hne, _⟩, hB⟩ hK
    exact absurd rfl (hne ⟨k, hk⟩ (by simp))
  case stop =>
    rintro D c pre W hD ⟨j, hj, rfl⟩ ⟨⟨rfl, hcr⟩, hB⟩ hK
    gi_wp2
    refine ⟨by simp, .inl ⟨_, _, rfl, run_takeDeferred hK, ?_⟩⟩
    have hc5 := cell_kept hcr (grownBy_putObj' _ D (.deferred none)) (fun r e => by cases e; exact ⟨_, hK, rfl⟩)
    refine ⟨.int .i64 (szL (zs.take k)), ?_, rfl, hB.trans (belowK_b (w := w) (Nat.le_refl _) W D _ _ (by simp at hD; omega) hK rfl rfl)⟩
    simp [results, Try.f45, go_sem, hc5]
end Go.Proofs.Ytigiegdkfgjmcaa
