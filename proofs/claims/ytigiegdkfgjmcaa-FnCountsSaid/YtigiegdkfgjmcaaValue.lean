/- The functions that range over a stack's wheels: cycle, size, value. -/
import Derived.Deep.RegionHeld3
import Derived.Test.YtigiegdkfgjmcaaPlaces
import Derived.Test.YtigiegdkfgjmcaaDigits
namespace Go.Proofs.Ytigiegdkfgjmcaa
open Go.RowKit Go.Shelf

theorem place_any (b n cap k : Nat) (zs : List Int) (hn : n = zs.length) (h8 : n ≤ 8) (hin : inB zs n) (hk : k < n) (w : World) (hS : Stk w b zs) :
    Calls Try.prog 45 #[.slice (some ⟨b, 0, none⟩) n cap, .int .i64 (k : Int)] w fun e W' => e = .returned (.int .i64 (szL (zs.take k))) ∧ Below w.heap.size w W' :=
  callsIn_wide.1 (place_in Fence.wide 8 trivial trivial trivial rfl (by omega) b n cap k zs hn h8 hin hk w hS)

set_option maxHeartbeats 2000000 in
theorem cycle_any (b n cap k : Nat) (zs : List Int) (hn : n = zs.length) (h8 : n ≤ 8) (hin : inB zs n) (hk : k < n) (w : World) (hS : Stk w b zs) :
    Calls Try.prog 46 #[.slice (some ⟨b, 0, none⟩) n cap, .int .i64 (k : Int)] w fun e W' => e = .returned (.int .i64 (szL (zs.take (k + 1)))) ∧ Below w.heap.size w W' := by
  have hx : w.cell? ⟨b, k, none⟩ = some (.int .u8 (zs[k]?.getD 0)) := hS.2.1 k (by omega)
  have hlt := hS.1
  have hzb := hin k hk
  obtain ⟨s1, s2, s3, s4⟩ := szL_step zs k (by omega) (by omega) (fun j hj => hin j (by omega))
  have HT := hid (szL_take zs k (by omega))
  have HP := hid (fun w (hS : Stk w b zs) => place_any b n cap k zs hn h8 hin hk w hS)
  have HS := hid hS
  have HN := hid hn
  have HI := hid hin
  clear hn hin hS
  obtain ⟨p, hp⟩ : ∃ p, p = szL (zs.take k) := ⟨_, rfl⟩
  obtain ⟨z, hz⟩ : ∃ z, z = zs[k]?.getD 0 := ⟨_, rfl⟩
  rw [← hp, ← hz] at HT s3 s4
  rw [← hp] at s1 s2
  simp only [← hp] at HP
  rw [← hz] at hx hzb
  clear hp hz
  have hk1 : (0 : Int) ≤ (k : Int) := by omega
  have hk2 : (k : Int) < (n : Int) := by omega
  go_enter Try.func46, Try.ntmps46
  go_wp2_with fail
  go_region_held3 (fun w' => w'.cell? ⟨b, k, none⟩ = some (.int .u8 z)) (first | exact hx2 | exact hx)
    ((first | (go_at_call 45; have hX := HP.out w.drew (HS.out.below (Below.refl _ w).drew HS.out.1); refine hX.mono ?_; clear hX; rintro e w1 ⟨rfl, hB⟩; have hx2 := (hB.cell (p := ⟨b, k, none⟩) hlt).trans (show w.drew.cell? ⟨b, k, none⟩ = _ from hx))))
  go_wp2
  go_ret
  have hw1 : IntKind.i64.wrap z = z := IntWalk.i64_in _ (by omega)
  have hw2 : IntKind.i64.wrap (p * z) = p * z := IntWalk.i64_in _ (by omega)
  exact ⟨by show Ending.returned (.int .i64 (IntKind.i64.wrap (p * IntKind.i64.wrap z))) = _; rw [hw1, hw2, HT.out], (Below.refl _ w).drew.trans hB⟩

theorem size_any /- by Try.prog 46 -/ (b n cap : Nat) (zs : List Int) (hn : n = zs.length) (hv : okL zs = true) (w : World) (hS : Stk w b zs) :
    Calls Try.prog 32 #[.slice (some ⟨b, 0, none⟩) n cap] w fun e W' => e = .returned (.int .i64 (szL zs)) ∧ Below w.heap.size w W' := by
  obtain ⟨h1, h8, hin, _, _⟩ := okL_out hv
  obtain ⟨k, hk⟩ : ∃ k, n = k + 1 := ⟨n - 1, by omega⟩
  have hX := hid (cycle_any b n cap k zs hn (by omega) (by rw [hn]; exact hin) (by omega) w hS)
  have hT : zs.take (k + 1) = zs := by rw [← hk, hn, List.take_length]
  rw [hT] at hX
  have hk8 : k < 8 := by omega
  subst hk
  clear hn hv hS h1 hin hT h8
  go_enter Try.func32, Try.ntmps32
  go_wp2_with fail
  refine hX.out.mono ?_
  rintro e w1 ⟨rfl, hB⟩
  go_wp2_with fail
  go_ret
  exact ⟨rfl, hB⟩

attribute [local go_sem] Oper.semAt_some
theorem cell_far {W : World} {a p : Addr} {u : Value} (h : p.block ≠ a.block) : (W.setCell a u).cell? p = W.cell? p := World.cell?_of_block (Below.heap_setCell W a u p.block h)
theorem oct_get (d0 d1 d2 d3 d4 d5 d6 d7 : Int) (k : Nat) (hk : k < 8) : ([Value.int .u8 d0, .int .u8 d1, .int .u8 d2, .int .u8 d3, .int .u8 d4, .int .u8 d5, .int .u8 d6, .int .u8 d7] : List Value)[k]? = some (.int .u8 (([d0, d1, d2, d3, d4, d5, d6, d7] : List Int)[k]?.getD 0)) := by
  have h : k = 0 ∨ k = 1 ∨ k = 2 ∨ k = 3 ∨ k = 4 ∨ k = 5 ∨ k = 6 ∨ k = 7 := by omega
  rcases h with rfl | rfl | rfl | rfl | rfl | rfl | rfl | rfl <;> rfl

set_option maxRecDepth 100000 in
set_option maxHeartbeats 4000000 in
/-- impl.value: the sum of each digit times its place -/
theorem value_in (F : Fence) (m : Nat) (hf1 : F.fn 31) (hf2 : F.fn 39) (hf3 : F.fn 55) (hro : F.round = none) (hm : 3 ≤ m)
    (b n cap : Nat) (zs : List Int) (hn : n = zs.length) (h8 : n ≤ 8) (hin : inB zs n) (d0 d1 d2 d3 d4 d5 d6 d7 : Int) (ho : Oct d0 d1 d2 d3 d4 d5 d6 d7) (w : World) (hS : Stk w b zs) :
    CallsIn F m Try.prog 31 #[.slice (some ⟨b, 0, none⟩) n cap, .agg #[.int .u8 d0, .int .u8 d1, .int .u8 d2, .int .u8 d3, .int .u8 d4, .int .u8 d5, .int .u8 d6, .int .u8 d7]] w fun e W' => e = .returned (.int .i64 (vfold zs [d0, d1, d2, d3, d4, d5, d6, d7] (List.finRange n))) ∧ Below w.heap.size w W' := by
  have h1 : 1 ≤ m := by omega
  have hlt := hS.1
  have hC := hid hS.2.1
  have hI := hid hin
  have hN := hid hn
  have hO := hid (fun k hk => oct_bd ho k hk)
  clear hS hin hn ho
  refine callsIn_of_wp_marks Try.func31 rfl hf1 ?_ hro
  simp only [Try.ntmps31, List.size_toArray, List.length_cons, List.length_nil, Nat.reduceAdd, Nat.reduceSub, Array.replicate_succ, Array.replicate_zero, List.push_toArray, List.append_toArray, List.nil_append, List.cons_append]
  gi_wp2_with (gi_at_call 39; refine (places_in F (m - 1) hf2 hro _ _ _ _).mono ?_; rintro e w' ⟨rfl, rfl⟩)
  have rD := Row.new w 28 [.int .u8 d0, .int .u8 d1, .int .u8 d2, .int .u8 d3, .int .u8 d4, .int .u8 d5, .int .u8 d6, .int .u8 d7]
  have bR := Boxed.new (w.alloc (.cells #[.int .u8 d0, .int .u8 d1, .int .u8 d2, .int .u8 d3, .int .u8 d4, .int .u8 d5, .int .u8 d6, .int .u8 d7] 28)) 2 (.int .i64 0)
  have bN := Boxed.new ((w.alloc (.cells #[.int .u8 d0, .int .u8 d1, .int .u8 d2, .int .u8 d3, .int .u8 d4, .int .u8 d5, .int .u8 d6, .int .u8 d7] 28)).alloc (.cells #[.int .i64 0] 2)) 24 (.slice (some ⟨b, 0, none⟩) n cap)
  rw [World.size_alloc] at bR
  rw [World.size_alloc, World.size_alloc] at bN
  have hB0 : Below w.heap.size w (((w.alloc (.cells #[.int .u8 d0, .int .u8 d1, .int .u8 d2, .int .u8 d3, .int .u8 d4, .int .u8 d5, .int .u8 d6, .int .u8 d7] 28)).alloc (.cells #[.int .i64 0] 2)).alloc (.cells #[.slice (some ⟨b, 0, none⟩) n cap] 24)) := (((Below.refl _ w).alloc (Nat.le_refl _) _).alloc (by simp) _).alloc (by simp; omega) _
  refine wpIn_rangeFunc_ownG hro h1 (gf := 55) (lb := #[.pointer (some ⟨w.heap.size + 1 + 1, 0, none⟩)]) rfl hf3 (enters_of Try.func55 (by kernel_rfl) rfl)
    (places_stops F (m - 1) hf3 hro (by omega) (w.heap.size + 1 + 1) w.heap.size b n cap zs hN.out h8 hI.out _ (by simp) (by simp; omega) hlt bN.cell (fun j hj => (hB0.cell (p := ⟨b, j, none⟩) hlt).trans (hC.out j (by rw [← hN.out]; exact hj)))) belowK_t (belowK_b (by simp; omega)) (Below.refl _ _) (fun _ => rfl)
    (fun pre W => ((∀ j, j < 8 → W.cell? ⟨w.heap.size, j, none⟩ = some (.int .u8 (([d0, d1, d2, d3, d4, d5, d6, d7] : List Int)[j]?.getD 0))) ∧ (W.cell? ⟨w.heap.size + 1, 0, none⟩ = some (.int .i64 (vfold zs [d0, d1, d2, d3, d4, d5, d6, d7] pre)) ∧ W.frozen? ⟨w.heap.size + 1, 0, none⟩ = false)) ∧ Below w.heap.size w W)
    (fun _ _ _ => False)
    (OwnFrom.and (Own.from (fun s A B row hs hg hr => ⟨fun j hj => cell_kept (hs.1 j hj) hg hr, cell_kept hs.2.1 hg hr, (frozen_kept hs.2.1 hg hr).trans hs.2.2⟩) _) (ownFrom_below (Nat.le_refl _) (by simp; omega)))
    (fun _ _ _ _ _ hs _ _ => hs)
    ⟨⟨fun j hj => (((rD.alloc _).alloc _).cell j).trans (oct_get d0 d1 d2 d3 d4 d5 d6 d7 j hj), (bR.alloc _).cell, (bR.alloc _).frozen⟩, hB0⟩
    (fun x => { tmps := #[.slice (some ⟨b, 0, none⟩) n cap, .agg #[.int .u8 d0, .int .u8 d1, .int .u8 d2, .int .u8 d3, .int .u8 d4, .int .u8 d5, .int .u8 d6, .int .u8 d7], undef, .pointer (some ⟨w.heap.size, 0, none⟩), .int .i64 0, .pointer (some ⟨w.heap.size + 1, 0, none⟩), .int .i64 (x.1 : Int), .int .i64 (szL (zs.take x.1)), .slice (some ⟨b, 0, none⟩) n cap, .func (.func 55) #[] #[.pointer (some ⟨w.heap.size + 1 + 1, 0, none⟩)], .int .i64 (x.1 : Int), .int .i64 (szL (zs.take x.1)), undef, undef, undef, undef, undef, undef, undef, undef, undef], defers := [] }) ?assign ?body ?done ?stop
  case assign =>
    intro l x W K hK
    gi_wp2
    exact hK
  case body =>
    rintro l pre x W ⟨⟨hd, hcr, hfr⟩, hB⟩ _
    have hk := x.2
    have hdx := hd x.1 (by omega)
    have hdb := hO.out x.1 (by omega)
    obtain ⟨s1, s2, _, _⟩ := szL_step zs x.1 (by rw [← hN.out]; exact hk) (by rw [← hN.out]; exact h8) (fun j hj => hI.out j (by omega))
    have HV := hid (vfold_snoc zs [d0, d1, d2, d3, d4, d5, d6, d7] pre x)
    have hD := hid hd
    clear hd
    obtain ⟨d, hd⟩ : ∃ d, d = ([d0, d1, d2, d3, d4, d5, d6, d7] : List Int)[x.1]?.getD 0 := ⟨_, rfl⟩
    obtain ⟨p, hp⟩ : ∃ p, p = szL (zs.take x.1) := ⟨_, rfl⟩
    obtain ⟨s, hs⟩ : ∃ s, s = vfold zs [d0, d1, d2, d3, d4, d5, d6, d7] pre := ⟨_, rfl⟩
    rw [← hd, ← hp, ← hs] at HV
    rw [← hd] at hdx hdb
    rw [← hp] at s1 s2
    rw [← hs] at hcr
    rw [← hp]
    clear hd hp hs
    have q1 : 0 ≤ d * p := Int.mul_nonneg (by omega) (by omega)
    have q2 : d * p ≤ 255 * 10000000000000000 := Int.mul_le_mul hdb.2 s2 (by omega) (by omega)
    gi_wp2
    have e1 : IntKind.i64.wrap d = d := IntWalk.i64_in _ (by omega)
    have e2 : IntKind.i64.wrap (d * p) = d * p := IntWalk.i64_in _ (by omega)
    have HW : Hid (IntKind.i64.wrap (s + IntKind.i64.wrap (IntKind.i64.wrap d * p)) = vfold zs [d0, d1, d2, d3, d4, d5, d6, d7] (pre ++ [x])) := by
      rw [e1, e2, HV.out, IntKind.wrap_i64]; exact hid (by unfold wrap64; omega)
    clear e1 e2
    gi_region
    all_goals
      exact ⟨((KeepsOthers.setCell _ _ _).trans (KeepsOthers.drew _)).from _, ((Below.refl w.heap.size W).setCell (p := ⟨w.heap.size + 1, 0, none⟩) (by show _ ≤ w.heap.size + 1; omega) _).drew,
        ⟨fun j hj => (cell_far (by show w.heap.size ≠ w.heap.size + 1; omega)).trans (hD.out j hj), by rw [World.cell?_drew, World.cell?_setCell_same' _ _ _ (by rw [hcr]; rfl), HW.out], by rw [World.frozen?_drew, World.frozen?_setCell]; exact hfr⟩, (hB.setCell (p := ⟨w.heap.size + 1, 0, none⟩) (by show _ ≤ w.heap.size + 1; omega) _).drew⟩
  case done =>
    rintro D ys W hD rfl ⟨⟨_, hc, _⟩, hB⟩ hK
    gi_wp2
    refine ⟨by simp, .inl ⟨_, _, rfl, run_takeDeferred hK, ?_⟩⟩
    exact ⟨_, results_tmp rfl _ _ _, rfl, hB.trans (belowK_b (w := w) (Nat.le_refl _) W D _ _ (by simp at hD; omega) hK rfl rfl)⟩
  case stop =>
    rintro D c pre W _ _ h _
    exact h.elim
end Go.Proofs.Ytigiegdkfgjmcaa
