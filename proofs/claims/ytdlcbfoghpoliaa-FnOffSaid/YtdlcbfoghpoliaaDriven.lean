/- RatioOf and DrivenCount: the program's and the model's. -/
import Derived.Test.YtdlcbfoghpoliaaOfT
namespace Go.Proofs.Ytdlcbfoghpoliaa
open Go.RowKit
def ratR (js : List (Int × Int)) : (Int × Int) × Int := if okT js then ((redP (prD js js.length) (prN js js.length), redQ (prD js js.length) (prN js js.length)), 0) else ((0, 0), 1)
theorem ratR_yes {js : List (Int × Int)} (h : okT js = true) : ratR js = ((redP (prD js js.length) (prN js js.length), redQ (prD js js.length) (prN js js.length)), 0) := by simp [ratR, h]
theorem ratR_no {js : List (Int × Int)} (h : okT js = false) : ratR js = ((0, 0), 1) := by simp [ratR, h]
def turnsI (c P Q : Int) : Int := c * P / Q
theorem turns_bd {c P Q : Int} (h1 : 0 ≤ c) (h2 : c ≤ 1000000000) (h3 : 1 ≤ P) (h4 : P ≤ 1000000000) (h5 : 1 ≤ Q) : 0 ≤ c * P ∧ c * P ≤ 1000000000000000000 ∧ 0 ≤ turnsI c P Q ∧ turnsI c P Q ≤ 1000000000000000000 ∧ (c * P).tdiv Q = turnsI c P Q := by
  have a := Int.mul_nonneg h1 (show 0 ≤ P by omega)
  have b := Int.mul_le_mul h2 h4 (by omega) (by omega)
  have e := Int.ediv_nonneg a (show 0 ≤ Q by omega)
  have f := Int.ediv_le_self Q a
  unfold turnsI
  exact ⟨a, by omega, e, by omega, Int.tdiv_eq_ediv_of_nonneg a⟩
theorem turns_any (c P Q : Int) (h1 : 0 ≤ c) (h2 : c ≤ 1000000000) (h3 : 1 ≤ P) (h4 : P ≤ 1000000000) (h5 : 1 ≤ Q) (w : World) :
    Calls Try.prog 35 #[.agg #[.int .i64 P, .int .i64 Q], .int .i64 c] w (GivesB w (.int .i64 (turnsI c P Q))) := by
  obtain ⟨m1, m2, z1, z2, e1⟩ := turns_bd h1 h2 h3 h4 h5
  have e2 : c * P / Q = turnsI c P Q := rfl
  obtain ⟨m, hm⟩ : ∃ z, c * P = z := ⟨_, rfl⟩
  obtain ⟨z, hz⟩ : ∃ z, turnsI c P Q = z := ⟨_, rfl⟩
  rw [hm] at m1 m2 e1 e2
  rw [hz] at z1 z2 e1 e2 ⊢
  have t1 : IntKind.i64.wrap m = m := IntWalk.i64_in _ (by omega)
  have t2 : IntKind.i64.wrap z = z := IntWalk.i64_in _ (by omega)
  have n1 : Q ≠ 0 := by omega
  have bE := hid (box2_bel w 28 (.int .i64 P) (.int .i64 Q))
  clear hz
  go_enter Try.func35, Try.ntmps35
  go_wp2_with fail
  go_ret
  exact ⟨rfl, bE.out⟩
/-- what a valid train's ratio is -/
theorem rat_bd {js : List (Int × Int)} (h : okT js = true) : 1 ≤ redP (prD js js.length) (prN js js.length) ∧ redP (prD js js.length) (prN js js.length) ≤ 207360000 ∧ 1 ≤ redQ (prD js js.length) (prN js js.length) ∧ redQ (prD js js.length) (prN js js.length) ≤ 207360000 := by
  obtain ⟨p1, p2, p3, p4⟩ := pr_bd h js.length (Nat.le_refl _)
  obtain ⟨_, _, _, x1, x2, y1, y2, _, _⟩ := red_bd p1 p3
  omega
set_option maxHeartbeats 1000000 in
theorem specRat_any (b n cap : Nat) (js : List (Int × Int)) (w : World) (hS : Pst w b js) (hn : n = js.length) (hbd : Bd16 js) :
    Calls Try.prog 6 #[.slice (some ⟨b, 0, none⟩) n cap] w (GivesB w (pairV (ratR js))) := by
  have hbl := hS.1
  have bE := hid (box2_bel w 28 (.int .i64 0) (.int .i64 0))
  have Q0 := hid (Row.new w 28 [.int .i64 0, .int .i64 0])
  have hS1 := hS.below bE.out hbl
  have HV := hid (l03Train_any b n cap js _ hS1 hn hbd)
  cases hv : okT js with
  | false =>
    rw [ratR_no hv]
    unfold pairV
    rw [hv] at HV
    clear hS hS1 hn hbd hv
    go_enter Try.func6, Try.ntmps6
    go_wp2_with fail
    refine HV.out.mono ?_
    rintro e w1 ⟨rfl, d, rfl⟩
    have r1 := Row.drewN Q0.out d
    have bF := hid (below_drewN bE.out d)
    have d0 := r1.cell 0
    have d1 := r1.cell 1
    have f0 := r1.frozen 0
    have f1 := r1.frozen 1
    simp only [List.getElem?_cons_zero, List.getElem?_cons_succ] at d0 d1
    have P := hid (pair_again (.int .i64 0) (.int .i64 0) r1)
    clear r1
    go_wp2_with fail
    obtain ⟨V, hV⟩ : ∃ V, V = ((World.drewN (w.alloc (.cells #[.int .i64 0, .int .i64 0] 28)) d).setCell ⟨w.heap.size, 0, none⟩ (.int .i64 0)).setCell ⟨w.heap.size, 1, none⟩ (.int .i64 0) := ⟨_, rfl⟩
    obtain ⟨rV, bV, _⟩ := P.out V hV
    rw [← hV]
    clear hV d0 d1 f0 f1
    have g0 := rV.cell 0
    have g1 := rV.cell 1
    simp only [List.getElem?_cons_zero, List.getElem?_cons_succ] at g0 g1
    exact bodyPost_ret (v := .tuple #[.agg #[.int .i64 0, .int .i64 0], .int .i64 1]) (by simp [results, Try.results6, go_sem, g0, g1]) rfl ⟨rfl, bF.out.trans (bV _ (by omega))⟩
  | true =>
    rw [ratR_yes hv, ← hn]
    unfold pairV
    simp only
    rw [hv] at HV
    have HG := hid (fun w1 (h : Pst w1 b js) => l03Of_any b n cap js w1 h hn hv)
    have HS := hid hS1
    obtain ⟨x, hx⟩ : ∃ z, redP (prD js n) (prN js n) = z := ⟨_, rfl⟩
    obtain ⟨y, hy⟩ : ∃ z, redQ (prD js n) (prN js n) = z := ⟨_, rfl⟩
    rw [hx, hy] at HG ⊢
    clear hS hS1 hn hbd hv hx hy
    go_enter Try.func6, Try.ntmps6
    go_wp2_with fail
    refine HV.out.mono ?_
    rintro e w1 ⟨rfl, d, rfl⟩
    have r0 := Row.drewN Q0.out d
    have bF := hid (below_drewN bE.out d)
    go_wp2_with fail
    refine (HG.out _ (HS.out.below (below_drewN (Below.refl _ _) d) HS.out.1)).mono ?_
    rintro e w2 ⟨rfl, hB2⟩
    have r1 := r0.below hB2 r0.lt
    have bF := hid (bF.out.trans (hB2.mono (by first | omega | (simp; done) | (simp; omega))))
    clear hB2 r0
    have d0 := r1.cell 0
    have d1 := r1.cell 1
    have f0 := r1.frozen 0
    have f1 := r1.frozen 1
    simp only [List.getElem?_cons_zero, List.getElem?_cons_succ] at d0 d1
    have P := hid (pair_again (.int .i64 x) (.int .i64 y) r1)
    clear r1
    go_wp2_with fail
    obtain ⟨V, hV⟩ : ∃ V, V = (w2.setCell ⟨w.heap.size, 0, none⟩ (.int .i64 x)).setCell ⟨w.heap.size, 1, none⟩ (.int .i64 y) := ⟨_, rfl⟩
    obtain ⟨rV, bV, _⟩ := P.out V hV
    rw [← hV]
    clear hV d0 d1 f0 f1
    have g0 := rV.cell 0
    have g1 := rV.cell 1
    simp only [List.getElem?_cons_zero, List.getElem?_cons_succ] at g0 g1
    exact bodyPost_ret (v := .tuple #[.agg #[.int .i64 x, .int .i64 y], .int .i64 0]) (by simp [results, Try.results6, go_sem, g0, g1]) rfl ⟨rfl, bF.out.trans (bV _ (by omega))⟩

def drR (js : List (Int × Int)) (c : Int) : Int × Int := if okT js then (if 0 ≤ c ∧ c ≤ 1000000000 then (turnsI c (redP (prD js js.length) (prN js js.length)) (redQ (prD js js.length) (prN js js.length)), 0) else (0, 2)) else (0, 1)
theorem drR_no {js : List (Int × Int)} {c : Int} (h : okT js = false) : drR js c = (0, 1) := by simp [drR, h]
theorem drR_range {js : List (Int × Int)} {c : Int} (h : okT js = true) (hc : ¬ (0 ≤ c ∧ c ≤ 1000000000)) : drR js c = (0, 2) := by rw [drR, if_pos h, if_neg hc]
theorem drR_yes {js : List (Int × Int)} {c : Int} (h : okT js = true) (hc : 0 ≤ c ∧ c ≤ 1000000000) : drR js c = (turnsI c (redP (prD js js.length) (prN js js.length)) (redQ (prD js js.length) (prN js js.length)), 0) := by rw [drR, if_pos h, if_pos hc]
end Go.Proofs.Ytdlcbfoghpoliaa
