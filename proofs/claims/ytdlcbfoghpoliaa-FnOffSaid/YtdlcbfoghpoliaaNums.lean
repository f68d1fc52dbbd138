/- The numbers of a train, as the program gathers them. -/
import Derived.Test.YtdlcbfoghpoliaaTrain
namespace Go.Proofs.Ytdlcbfoghpoliaa
open Go.RowKit
/-- a slice of fresh 16-bit numbers -/
def NumsR (w : World) (js : List (Int × Int)) (m : Nat) (e : Ending) (w' : World) : Prop :=
  ∃ g cap, e = .returned (.slice (some ⟨g, 0, none⟩) m cap) ∧ Below w.heap.size w w' ∧ w.heap.size ≤ g ∧ g < w'.heap.size ∧ ∀ j, j < m → w'.cell? ⟨g, j, none⟩ = some (.int .i16 (num js j))
theorem owns_below {w w' : World} {base size n : Nat} {e : TypeId} {v : Value} {xs : List Value} (h : w.ownsRow base e size v n xs) (hb : Below w.heap.size w w') : w'.ownsRow base e size v n xs := by
  refine ⟨h.1, ?_⟩
  rcases h.2 with h0 | ⟨g, cap, cur, h1, h2, h3, h4⟩
  · exact .inl h0
  · exact .inr ⟨g, cap, cur, h1, h2, (hb.block g (lt_of_block h3)).trans h3, h4⟩
theorem Row.grown {w w' : World} {g : Nat} {e : TypeId} {xs : List Value} {o : Option Nat} (h : Row w g e xs) (hg : w.grownBy w' o) (hne : some g ≠ o) : Row w' g e xs := (hg.block g h.lt hne).trans h
theorem own_ne {w : World} {base size n : Nat} {e : TypeId} {v : Value} {xs : List Value} (h : w.ownsRow base e size v n xs) (g : Nat) (hg : g < base) : some g ≠ v.ownBlock := fun e => by
  have := (h.lt g e.symm).1
  omega
set_option maxHeartbeats 2000000 in
theorem numbers_any (b n cap : Nat) (js : List (Int × Int)) (w : World) (hS : Pst w b js) (hn : n = js.length) (h1 : 1 ≤ n) (h4 : n ≤ 4) :
    Calls Try.prog 32 #[.slice (some ⟨b, 0, none⟩) n cap] w (NumsR w js (2 * n)) := by
  obtain ⟨i0, hi, iz0, iz1, iz2⟩ := info_parts Try.info16
  have hbl := hS.1
  have hC := hid hS.2.1
  have hN := hid hn
  clear hS hn
  go_enter Try.func32, Try.ntmps32
  go_wp2_with fail
  go_loopw [4, 12] (fun v i wr => ∃ k : Nat, k ≤ n ∧ i = .int .i64 k ∧ wr.ownsRow (w.heap.size + 1) 39 1 v (2 * k) ((nums js (2 * k)).map (Value.int .i16)) ∧ Row wr w.heap.size 64 [.func (.func 36) #[] #[], .func (.func 37) #[] #[]] ∧ Below w.heap.size w wr) (fun _ i _ => n - (intOf i).toNat)
  case atStart => exact ⟨0, Nat.zero_le _, rfl, World.ownsRow_nil _ _ _ _, Row.new w _ _, (Below.refl _ w).alloc (Nat.le_refl _) _⟩
  case round =>
    obtain ⟨k, hk, rfl, hown, hrow, hB⟩ := hrel
    by_cases hlt : k < n
    · have hlt' : (k : Int) < (n : Int) := by omega
      have hk0 : (0 : Int) ≤ (k : Int) := by omega
      have c1 := (hB.cell (p := ⟨b, k * 2, none⟩) hbl).trans (hC.out k (by rw [← hN.out]; exact hlt)).1
      have c2 := (hB.cell (p := ⟨b, k * 2 + 1, none⟩) hbl).trans (hC.out k (by rw [← hN.out]; exact hlt)).2
      obtain ⟨x, hx⟩ : ∃ x, x = pd js k := ⟨_, rfl⟩
      obtain ⟨y, hy⟩ : ∃ x, x = pn js k := ⟨_, rfl⟩
      have HX := hid hx
      have HY := hid hy
      rw [← hx] at c1
      rw [← hy] at c2
      clear hx hy
      have f0 := hrow.cell 0
      have f1 := hrow.cell 1
      simp only [List.getElem?_cons_zero, List.getElem?_cons_succ] at f0 f1
      have hzr := hrow.lt
      have HR := hid (hrow.alloc (.cells #[.int .i16 x, .int .i16 y] 41))
      have hb0 := box2_bel wr 41 (.int .i16 x) (.int .i16 y)
      have QB := hid (Row.new wr 41 [.int .i16 x, .int .i16 y])
      have HO := hid (hown.alloc (.cells #[.int .i16 x, .int .i16 y] 41))
      have HL := hid hown.lt
      clear hrow hown
      go_wp2_with fail
      refine wp_loop_rounds 3 ?_
      rw [rounds_succ]
      go_wp2_with fail
      refine (driver_any x y _).mono ?_
      rintro e w1 ⟨rfl, hB1⟩
      have hz1 := hB1.size
      simp only [World.size_alloc] at hB1 hz1
      have hown1 := owns_below HO.out (hB1.mono (by simp))
      have hown2 := hid (hown1.alloc (.cells #[.int .i16 x] 39))
      have news := Row.new w1 39 [.int .i16 x]
      have nc := news.cell 0
      simp only [List.getElem?_cons_zero] at nc
      have RF := hid ((HR.out.below hB1 (by omega)).alloc (.cells #[.int .i16 x] 39))
      have RB := hid ((QB.out.below hB1 (by omega)).alloc (.cells #[.int .i16 x] 39))
      have bb1 := hid ((hB.trans (hb0.mono (by omega))).trans ((hB1.mono (by omega)).trans ((Below.refl w1.heap.size w1).alloc (Nat.le_refl _) (.cells #[.int .i16 x] 39) |>.mono (by omega))))
      clear f0 f1 hB1 hown1
      go_wp2_with (at_builtin; refine wpList_append_own _ rfl _ _ 60 rfl (w.heap.size + 1) 39 i0 (.int .i16 0) 1 2 Try.underlying60 hi iz0 iz1 iz2 rfl (by decide) _ _ _ rfl hown2.out ⟨w1.heap.size, 0, none⟩ 1 1 [.int .i16 x] rfl rfl (by intro j u hj; match j, hj with | 0, hj => simp at hj; subst hj; simp [Addr.add, nc]) (by intro u hu; simp at hu; subst hu; rfl) (by unfold maxLen; omega) (by omega) (by simp; omega) ?_; intro v' w2 hown' hgrow _)
      have hg : (w1.alloc (.cells #[.int .i16 x] 39)).grownBy w2 u4.ownBlock := hgrow
      have hgs := hg.size
      simp only [World.size_alloc] at hgs
      have RF2 := hid (RF.out.grown hg (own_ne hown2.out _ (by omega)))
      have RB2 := RB.out.grown hg (by intro e; have := (HL.out wr.heap.size e.symm).2; omega)
      have bb2 := hid (bb1.out.grown hg (by simp; omega) (fun k e => by have := (hown2.out.lt k e).1; omega))
      have HO2 := hid hown'
      have f0 := RF2.out.cell 0
      have f1 := RF2.out.cell 1
      have c3 := RB2.cell 0
      have c4 := RB2.cell 1
      simp only [List.getElem?_cons_zero, List.getElem?_cons_succ] at f0 f1 c3 c4
      clear hgrow hg hown' RB2 RB RF bb1 hown2 nc news QB HR HO
      go_wp2_with fail
      rw [rounds_succ]
      go_wp2_with fail
      refine (driven_any x y _).mono ?_
      rintro e w3 ⟨rfl, hB3⟩
      have hz3 := hB3.size
      have hown3 := hid ((owns_below HO2.out hB3).alloc (.cells #[.int .i16 y] 39))
      have news := Row.new w3 39 [.int .i16 y]
      have nc := news.cell 0
      simp only [List.getElem?_cons_zero] at nc
      have RF := hid ((RF2.out.below hB3 (by omega)).alloc (.cells #[.int .i16 y] 39))
      have bb3 := hid (bb2.out.trans ((hB3.mono (by omega)).trans ((Below.refl w3.heap.size w3).alloc (Nat.le_refl _) (.cells #[.int .i16 y] 39) |>.mono (by omega))))
      clear f0 f1 c3 c4 hB3
      go_wp2_with (at_builtin; refine wpList_append_own _ rfl _ _ 60 rfl (w.heap.size + 1) 39 i0 (.int .i16 0) 1 2 Try.underlying60 hi iz0 iz1 iz2 rfl (by decide) _ _ _ rfl hown3.out ⟨w3.heap.size, 0, none⟩ 1 1 [.int .i16 y] rfl rfl (by intro j u hj; match j, hj with | 0, hj => simp at hj; subst hj; simp [Addr.add, nc]) (by intro u hu; simp at hu; subst hu; rfl) (by unfold maxLen; omega) (by omega) (by simp; omega) ?_; intro v'' w4 hown' hgrow _)
      have hg : (w3.alloc (.cells #[.int .i16 y] 39)).grownBy w4 v'.ownBlock := hgrow
      have RF4 := hid (RF.out.grown hg (own_ne hown3.out _ (by omega)))
      have bb4 := hid (bb3.out.grown hg (by simp; omega) (fun k e => by have := (hown3.out.lt k e).1; omega))
      have HO4 : w4.ownsRow (w.heap.size + 1) 39 1 v'' (2 * (k + 1)) ((nums js (2 * (k + 1))).map (Value.int .i16)) := by
        have e : nums js (2 * (k + 1)) = nums js (2 * k) ++ [x] ++ [y] := by
          rw [show 2 * (k + 1) = 2 * k + 1 + 1 from by omega, nums_succ, nums_succ, show 2 * k = k * 2 from by omega, num_even, num_odd, HX.out, HY.out]
        rw [e, List.map_append, List.map_append]
        exact hown'
      have HO5 := hid HO4
      clear hgrow hg hown' HO4 RF bb3 hown3 nc news HO2
      go_wp2_with fail
      rw [rounds_succ]
      go_wp2_with fail
      go_roundw
      case rel => exact ⟨k + 1, by omega, by go_num, HO5.out, RF4.out, bb4.out⟩
      case measure => simp [intOf]; omega
    · obtain rfl : k = n := by omega
      have HO := hid hown
      clear hown
      rcases HO.out.2 with ⟨_, h0⟩ | ⟨g, cap', cur, hv, hg1, hg2, hg3, hg4, hg5, hg6⟩
      · omega
      · have HG := hid (World.ownsRow.cells HO.out (g := g) (by rw [hv]; rfl))
        have HS := hid (lt_of_block hg2)
        subst hv
        clear hg2 hg5 hg6 hrow
        go_wp2_with fail
        go_ret
        refine ⟨g, cap', rfl, hB, by omega, HS.out, fun j hj => ?_⟩
        have := HG.out j (.int .i16 (num js j)) (by rw [List.getElem?_map, nums_get _ _ _ hj]; rfl)
        rw [show (⟨g, 0, none⟩ : Addr).add j = ⟨g, j, none⟩ from by by_cases h : j = 0; (subst h; simp [Addr.add]); simp [Addr.add, h]] at this
        exact this
end Go.Proofs.Ytdlcbfoghpoliaa
