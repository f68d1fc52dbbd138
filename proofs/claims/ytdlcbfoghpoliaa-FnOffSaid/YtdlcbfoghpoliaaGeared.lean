/- The ratio of a train: the program's products, the model's products of ratios. -/
import Derived.Test.YtdlcbfoghpoliaaValT
import Derived.Test.YtdlcbfoghpoliaaTimes
import Derived.Deep.DeepCutAuto
namespace Go.Proofs.Ytdlcbfoghpoliaa
open Go.RowKit
/-- the product of the first k drivers, of the first k wheels that are driven -/
def prD (js : List (Int × Int)) : Nat → Int
  | 0 => 1
  | k + 1 => prD js k * pd js k
def prN (js : List (Int × Int)) : Nat → Int
  | 0 => 1
  | k + 1 => prN js k * pn js k
theorem pow120 : ∀ k : Nat, k ≤ 4 → (120 : Int) ^ k ≤ 207360000
  | 0, _ => by decide
  | 1, _ => by decide
  | 2, _ => by decide
  | 3, _ => by decide
  | 4, _ => by decide
  | n + 5, h => by omega
theorem prD_bd {js : List (Int × Int)} (h : okTTo js js.length) : ∀ k, k ≤ js.length → 1 ≤ prD js k ∧ prD js k ≤ 120 ^ k
  | 0, _ => by simp [prD]
  | k + 1, hk => by
    have ih := prD_bd h k (by omega)
    have hx := (h k (by omega)).1
    unfold wheelOk at hx
    have := mul_bd ih.1 ih.2 (show 1 ≤ pd js k by omega) hx.2
    simp only [prD, Int.pow_succ]
    exact this
theorem prN_bd {js : List (Int × Int)} (h : okTTo js js.length) : ∀ k, k ≤ js.length → 1 ≤ prN js k ∧ prN js k ≤ 120 ^ k
  | 0, _ => by simp [prN]
  | k + 1, hk => by
    have ih := prN_bd h k (by omega)
    have hx := (h k (by omega)).2
    unfold wheelOk at hx
    have := mul_bd ih.1 ih.2 (show 1 ≤ pn js k by omega) hx.2
    simp only [prN, Int.pow_succ]
    exact this
theorem pr_bd {js : List (Int × Int)} (h : okT js = true) (k : Nat) (hk : k ≤ js.length) : 1 ≤ prD js k ∧ prD js k ≤ 207360000 ∧ 1 ≤ prN js k ∧ prN js k ≤ 207360000 := by
  obtain ⟨h1, h4, ht⟩ := okT_out h
  have a := prD_bd ht k hk
  have b := prN_bd ht k hk
  have c := pow120 k (by omega)
  exact ⟨a.1, Int.le_trans a.2 c, b.1, Int.le_trans b.2 c⟩
set_option maxHeartbeats 2000000 in
theorem geared_any (b n cap : Nat) (js : List (Int × Int)) (w : World) (hS : Pst w b js) (hn : n = js.length) (hv : okT js = true) :
    Calls Try.prog 23 #[.slice (some ⟨b, 0, none⟩) n cap] w (GivesB w (.agg #[.int .i64 (redP (prD js n) (prN js n)), .int .i64 (redQ (prD js n) (prN js n)), .slice (some ⟨b, 0, none⟩) n cap])) := by
  obtain ⟨n1, n4, ht⟩ := okT_out hv
  have hbl := hS.1
  have hC := hid hS.2.1
  have hN := hid hn
  have HT := hid ht
  have HB := hid (fun k (hk : k ≤ n) => pr_bd hv k (by rw [← hn]; exact hk))
  rw [← hn] at n1 n4
  clear hS hn hv ht
  have hb0 : Below w.heap.size w (w.alloc (.cells #[.int .i64 0, .int .i64 0, .slice none 0 0] 49)) := (Below.refl _ w).alloc (Nat.le_refl _) _
  have RR := hid (Row.new w 49 [.int .i64 0, .int .i64 0, .slice none 0 0])
  go_enter Try.func23, Try.ntmps23
  go_wp2_with fail
  go_loopw [3, 4, 9] (fun s t i wr => ∃ k : Nat, k ≤ n ∧ i = .int .i64 k ∧ s = .int .i64 (prD js k) ∧ t = .int .i64 (prN js k) ∧ Below (w.heap.size + 1) (w.alloc (.cells #[.int .i64 0, .int .i64 0, .slice none 0 0] 49)) wr) (fun _ _ i _ => n - (intOf i).toNat)
  case atStart => exact ⟨0, Nat.zero_le _, rfl, rfl, rfl, Below.refl _ _⟩
  case round =>
    obtain ⟨k, hk, rfl, rfl, rfl, hB⟩ := hrel
    have hzr := hB.size
    simp only [World.size_alloc] at hzr
    by_cases hlt : k < n
    · have hlt' : (k : Int) < (n : Int) := by omega
      have hk0 : (0 : Int) ≤ (k : Int) := by omega
      have bB := hb0.trans (hB.mono (by omega))
      have c1 := (bB.cell (p := ⟨b, k * 2, none⟩) hbl).trans (hC.out k (by rw [← hN.out]; exact hlt)).1
      have c2 := (bB.cell (p := ⟨b, k * 2 + 1, none⟩) hbl).trans (hC.out k (by rw [← hN.out]; exact hlt)).2
      have ww := HT.out k (by rw [← hN.out]; exact hlt)
      unfold wheelOk at ww
      obtain ⟨⟨w1, w2⟩, w3, w4⟩ := ww
      obtain ⟨p1, p2, p3, p4⟩ := HB.out k hk
      obtain ⟨p5, p6, p7, p8⟩ := HB.out (k + 1) (by omega)
      have e1 : prD js k * pd js k = prD js (k + 1) := rfl
      have e2 : prN js k * pn js k = prN js (k + 1) := rfl
      obtain ⟨x, hx⟩ : ∃ x, pd js k = x := ⟨_, rfl⟩
      obtain ⟨y, hy⟩ : ∃ x, pn js k = x := ⟨_, rfl⟩
      obtain ⟨P, hP⟩ : ∃ x, prD js k = x := ⟨_, rfl⟩
      obtain ⟨Q, hQ⟩ : ∃ x, prN js k = x := ⟨_, rfl⟩
      obtain ⟨P', hP'⟩ : ∃ x, prD js (k + 1) = x := ⟨_, rfl⟩
      obtain ⟨Q', hQ'⟩ : ∃ x, prN js (k + 1) = x := ⟨_, rfl⟩
      rw [hP, hx, hP'] at e1
      rw [hQ, hy, hQ'] at e2
      rw [hx] at c1 w1 w2
      rw [hy] at c2 w3 w4
      rw [hP] at p1 p2 ⊢
      rw [hQ] at p3 p4 ⊢
      rw [hP'] at p5 p6
      rw [hQ'] at p7 p8
      have HP' := hid hP'
      have HQ' := hid hQ'
      have t1 : IntKind.i64.wrap x = x := IntWalk.i64_in _ (by omega)
      have t2 : IntKind.i64.wrap y = y := IntWalk.i64_in _ (by omega)
      have t3 : IntKind.i64.wrap P' = P' := IntWalk.i64_in _ (by omega)
      have t4 : IntKind.i64.wrap Q' = Q' := IntWalk.i64_in _ (by omega)
      have HBB := hid hB
      clear hx hy hP hQ hP' hQ' bB hB
      go_wp2_with fail
      go_roundw
      case rel => exact ⟨k + 1, by omega, by go_num, by rw [HP'.out], by rw [HQ'.out], HBB.out.alloc (by omega) _⟩
      case measure => simp [intOf]; omega
    · obtain rfl : k = n := by omega
      obtain ⟨p1, p2, p3, p4⟩ := HB.out k hk
      obtain ⟨P, hP⟩ : ∃ x, prD js k = x := ⟨_, rfl⟩
      obtain ⟨Q, hQ⟩ : ∃ x, prN js k = x := ⟨_, rfl⟩
      have HP := hid hP
      have HQ := hid hQ
      rw [hP] at p1 p2 ⊢
      rw [hQ] at p3 p4 ⊢
      have HR := hid (fun w => reduced_any P Q p1 p3 (by omega) (by omega) w)
      have R1 := RR.out.below hB (by omega)
      have bB := hid (hb0.trans (hB.mono (by omega)))
      clear hP hQ hB
      go_wp2_with fail
      refine (HR.out _).mono ?_
      rintro e w5 ⟨rfl, hB5⟩
      have R2 := R1.below hB5 R1.lt
      have bC := hid (bB.out.trans (hB5.mono (by omega)))
      clear R1 hB5
      have d0 := R2.cell 0
      have d1 := R2.cell 1
      have d2 := R2.cell 2
      have f0 := R2.frozen 0
      have f1 := R2.frozen 1
      have f2 := R2.frozen 2
      simp only [List.getElem?_cons_zero, List.getElem?_cons_succ] at d0 d1 d2
      obtain ⟨x, hx⟩ : ∃ x, redP P Q = x := ⟨_, rfl⟩
      obtain ⟨y, hy⟩ : ∃ x, redQ P Q = x := ⟨_, rfl⟩
      rw [hx, hy]
      have HX := hid hx
      have HY := hid hy
      have PP := hid (((R2.set 0 (.int .i64 x)).set 1 (.int .i64 y)).set 2 (.slice (some ⟨b, 0, none⟩) k cap))
      clear R2 hx hy
      go_wp2_with fail
      obtain ⟨V, hV⟩ : ∃ V, V = ((w5.setCell ⟨w.heap.size, 0, none⟩ (.int .i64 x)).setCell ⟨w.heap.size, 1, none⟩ (.int .i64 y)).setCell ⟨w.heap.size, 2, none⟩ (.slice (some ⟨b, 0, none⟩) k cap) := ⟨_, rfl⟩
      have rV : Row V w.heap.size 49 [.int .i64 x, .int .i64 y, .slice (some ⟨b, 0, none⟩) k cap] := by rw [hV]; exact PP.out
      have bV : Below w.heap.size w V := by rw [hV]; exact ((bC.out.setCell (p := ⟨w.heap.size, 0, none⟩) (Nat.le_refl _) _).setCell (p := ⟨w.heap.size, 1, none⟩) (Nat.le_refl _) _).setCell (p := ⟨w.heap.size, 2, none⟩) (Nat.le_refl _) _
      rw [← hV]
      clear hV d0 d1 d2 f0 f1 f2
      have g0 := rV.cell 0
      have g1 := rV.cell 1
      have g2 := rV.cell 2
      simp only [List.getElem?_cons_zero, List.getElem?_cons_succ] at g0 g1 g2
      exact bodyPost_ret (v := .agg #[.int .i64 x, .int .i64 y, .slice (some ⟨b, 0, none⟩) k cap]) (by simp [results, Try.results23, go_sem, g0, g1, g2]) rfl ⟨by rw [HP.out, HQ.out, HX.out, HY.out], bV⟩
end Go.Proofs.Ytdlcbfoghpoliaa
