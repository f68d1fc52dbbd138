/- The readings that a suspect step leads to; the model's. -/
import Derived.Test.YtilbpgcgjbblaaaEndsI
namespace Go.Proofs.Ytilbpgcgjbblaaa
open Go.RowKit
set_option linter.unusedSimpArgs false
def askG (zs : List Int) (js : List (Int × Int)) (ok : Bool) : Int := if okG zs js && ok then 0 else 1
set_option maxHeartbeats 1000000 in
theorem l04Asked_any (bS nS capS : Nat) (zs : List Int) (hnS : nS = zs.length) (b n cap : Nat) (js : List (Int × Int)) (hn : n = js.length) (lo hi : Int) (w : World) (hS : Stk w bS zs) (hR : Rst w b js) :
    Calls Try.prog 32 #[.slice (some ⟨bS, 0, none⟩) nS capS, .slice (some ⟨b, 0, none⟩) n cap, .agg #[.int .i64 lo, .int .i64 hi]] w (GivesB w (.int .i64 (askG zs js (okF lo hi)))) := by
  have bW := box2_bel w 42 (.int .i64 lo) (.int .i64 hi)
  have HV := hid (l04Ok_any bS nS capS zs hnS b n cap js hn _ (hS.below bW hS.1) (hR.below bW hR.1))
  have HF := hid (fun w => l04Flow_any lo hi w)
  have Q0 := hid (Row.new w 42 [.int .i64 lo, .int .i64 hi])
  have bE := hid bW
  unfold askG
  obtain ⟨r, hr⟩ : ∃ r, okG zs js = r := ⟨_, rfl⟩
  obtain ⟨s, hs⟩ : ∃ r, okF lo hi = r := ⟨_, rfl⟩
  rw [hr] at HV ⊢
  rw [hs] at HF ⊢
  clear hr hs hn hnS hS hR bW
  cases r
  · simp only [Bool.false_and, if_neg Bool.false_ne_true]
    go_enter Try.func32, Try.ntmps32
    go_wp2_with fail
    refine HV.out.mono ?_
    rintro e w1 ⟨rfl, hB1⟩
    go_wp2_with fail
    go_ret
    exact ⟨rfl, bE.out.trans (hB1.mono (by simp))⟩
  · cases s
    all_goals
      first | simp only [Bool.true_and, if_neg Bool.false_ne_true] | simp only [Bool.true_and, if_true]
      go_enter Try.func32, Try.ntmps32
      go_wp2_with fail
      refine HV.out.mono ?_
      rintro e w1 ⟨rfl, hB1⟩
      have hz1 := hB1.size
      simp only [World.size_alloc] at hB1 hz1
      have r1 := Q0.out.below hB1 (by omega)
      have y0 := r1.cell 0
      have y1 := r1.cell 1
      simp only [List.getElem?_cons_zero, List.getElem?_cons_succ] at y0 y1
      have b1 := hid (bE.out.trans (hB1.mono (by omega)))
      go_wp2_with fail
      refine (HF.out _).mono ?_
      rintro e w2 ⟨rfl, hB2⟩
      go_wp2_with fail
      go_ret
      exact ⟨rfl, b1.out.trans (hB2.mono (by omega))⟩
set_option maxHeartbeats 2000000 in
theorem l04Fits_any (bS nS capS : Nat) (zs : List Int) (hnS : nS = zs.length) (hv : okL zs = true) (b n cap : Nat) (js : List (Int × Int)) (hn : n = js.length) (lo hi : Int) (i k : Nat) (hi' : i < n) (hk' : k < n) (h : -1000000000000 ≤ rv js k - rv js i ∧ rv js k - rv js i ≤ 1000000000000) (hd : 0 ≤ rd js k - rd js i ∧ rd js k - rd js i ≤ 100000) (hl : 0 ≤ lo ∧ lo ≤ 1000000) (hh : 0 ≤ hi ∧ hi ≤ 1000000) (w : World) (hS : Stk w bS zs) (hR : Rst w b js) :
    Calls Try.prog 57 #[.slice (some ⟨bS, 0, none⟩) nS capS, .slice (some ⟨b, 0, none⟩) n cap, .agg #[.int .i64 lo, .int .i64 hi], .int .i64 (i : Int), .int .i64 (k : Int)] w (GivesB w (.bool (posI (szL zs) (rv js k - rv js i) (lo * (rd js k - rd js i)) (hi * (rd js k - rd js i))))) := by
  obtain ⟨_, _, _, z1, _⟩ := okL_out hv
  have bW := box2_bel w 42 (.int .i64 lo) (.int .i64 hi)
  obtain ⟨W, hW⟩ : ∃ W, W = w.alloc (.cells #[.int .i64 lo, .int .i64 hi] 42) := ⟨_, rfl⟩
  have q0 := Row.new w 42 [.int .i64 lo, .int .i64 hi]
  have sW : W.heap.size = w.heap.size + 1 := by rw [hW]; simp
  rw [← hW] at bW q0
  have HS := hid (hS.below bW hS.1)
  have hbs := HS.out.1
  have hbr : b < W.heap.size := by have := hR.1; omega
  have cc := hR.2.1 i (by omega)
  have dd := hR.2.1 k (by omega)
  have c0 := (bW.cell (p := ⟨b, i * 2, none⟩) hR.1).trans cc.1
  have c1 := (bW.cell (p := ⟨b, i * 2 + 1, none⟩) hR.1).trans cc.2
  have c2 := (bW.cell (p := ⟨b, k * 2, none⟩) hR.1).trans dd.1
  have c3 := (bW.cell (p := ⟨b, k * 2 + 1, none⟩) hR.1).trans dd.2
  have c4 := q0.cell 0
  have c5 := q0.cell 1
  simp only [List.getElem?_cons_zero, List.getElem?_cons_succ] at c4 c5
  have HC := hid (fun w hS => l04Counts_any bS nS capS zs hnS hv (rd js i) (rv js i) (rd js k) (rv js k) lo hi h hd hl hh w hS)
  obtain ⟨r, hr⟩ : ∃ r, posI (szL zs) (rv js k - rv js i) (lo * (rd js k - rd js i)) (hi * (rd js k - rd js i)) = r := ⟨_, rfl⟩
  rw [hr]
  obtain ⟨x, y, hxy⟩ : ∃ x y : Int, cnt3 (szL zs) (rv js k - rv js i) (lo * (rd js k - rd js i)) (hi * (rd js k - rd js i)) = .tuple #[.int .i64 x, .int .i64 y, .bool r] := by
    cases r with
    | true => exact ⟨_, _, cnt3_yes z1 hr⟩
    | false => exact ⟨_, _, cnt3_no z1 hr⟩
  rw [hxy] at HC
  obtain ⟨p, hp⟩ : ∃ p, rd js i = p := ⟨_, rfl⟩
  obtain ⟨q, hq⟩ : ∃ p, rv js i = p := ⟨_, rfl⟩
  obtain ⟨u, hu⟩ : ∃ p, rd js k = p := ⟨_, rfl⟩
  obtain ⟨v, hv'⟩ : ∃ p, rv js k = p := ⟨_, rfl⟩
  rw [hp, hq, hu, hv'] at HC
  rw [hp] at c0
  rw [hq] at c1
  rw [hu] at c2
  rw [hv'] at c3
  have hin : (i : Int) < (n : Int) := by omega
  have hkn : (k : Int) < (n : Int) := by omega
  have hi0 : (0 : Int) ≤ (i : Int) := by omega
  have hk0 : (0 : Int) ≤ (k : Int) := by omega
  have l0 : w.heap.size < W.heap.size := by omega
  have bE := hid bW
  have hW2 := hid hW
  have hb0 := Below.refl W.heap.size W
  clear hr hxy hp hq hu hv' hW bW q0 cc dd hS hR hnS hv hn h hd hl hh z1
  go_enter Try.func57, Try.ntmps57
  go_wp2_with fail
  rw [← hW2.out]
  have SOF := hid (fun (v : World) (h : Below W.heap.size W v) => (And.intro ((h.cell (p := ⟨b, i * 2, none⟩) hbr).trans c0) (And.intro ((h.cell (p := ⟨b, i * 2 + 1, none⟩) hbr).trans c1) (And.intro ((h.cell (p := ⟨b, k * 2, none⟩) hbr).trans c2) (And.intro ((h.cell (p := ⟨b, k * 2 + 1, none⟩) hbr).trans c3) (And.intro ((h.cell (p := ⟨w.heap.size, 0, none⟩) l0).trans c4) ((h.cell (p := ⟨w.heap.size, 1, none⟩) l0).trans c5)))))))
  go_region_held3 (fun w' => w'.cell? ⟨b, i * 2, none⟩ = some (.int .i64 p) ∧ w'.cell? ⟨b, i * 2 + 1, none⟩ = some (.int .i64 q) ∧ w'.cell? ⟨b, k * 2, none⟩ = some (.int .i64 u) ∧ w'.cell? ⟨b, k * 2 + 1, none⟩ = some (.int .i64 v) ∧ w'.cell? ⟨w.heap.size, 0, none⟩ = some (.int .i64 lo) ∧ w'.cell? ⟨w.heap.size, 1, none⟩ = some (.int .i64 hi)) (exact SOF.out _ (by (repeat (first | assumption | refine Below.drew ?_ | refine Below.setCell ?_ (by first | omega | (simp; done) | (simp; omega)) _ | refine Below.alloc ?_ (by first | omega | (simp; done) | (simp; omega)) _))))
    ((first | (go_at_call 39; have _t := hb0; (with_reducible refine (HC.out _ (HS.out.below (n := W.heap.size) (by (repeat (first | assumption | refine Below.drew ?_ | refine Below.setCell ?_ (by first | omega | (simp; done) | (simp; omega)) _ | refine Below.alloc ?_ (by first | omega | (simp; done) | (simp; omega)) _))) hbs)).mono ?_); rintro e v1 ⟨rfl, hB1⟩; have hb1 : Below W.heap.size W v1 := bel_step (by (repeat (first | assumption | refine Below.drew ?_ | refine Below.setCell ?_ (by first | omega | (simp; done) | (simp; omega)) _ | refine Below.alloc ?_ (by first | omega | (simp; done) | (simp; omega)) _))) hB1; have hz1 := hb1.size; have hy1 := hB1.size; (try simp only [World.size_drew, World.size_alloc] at hy1); (first | skip))))
  go_wp2_with fail
  go_ret
  exact ⟨rfl, bE.out.trans (hb1.mono (by omega))⟩
end Go.Proofs.Ytilbpgcgjbblaaa
