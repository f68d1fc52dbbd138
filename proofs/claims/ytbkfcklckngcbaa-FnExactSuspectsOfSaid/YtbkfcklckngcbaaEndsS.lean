/- The readings that a step back, or a suspect step, leads to; the model's. -/
import Derived.Test.YtbkfcklckngcbaaEnds
import Derived.Test.YtbkfcklckngcbaaValGS
import Derived.Test.YtbkfcklckngcbaaFlowT
import Derived.BigQuiet
namespace Go.Proofs.Ytbkfcklckngcbaa
open Go.RowKit
set_option linter.unusedSimpArgs false
def endsR (zs : List Int) (js : List (Int × Int)) (ok : Bool) (P : Nat → Bool) : List Int × Int := if okG zs js && ok then (endsP P (List.finRange (js.length - 1)), 0) else ([], 1)
theorem endsR_log {zs : List Int} {js : List (Int × Int)} {ok : Bool} {P : Nat → Bool} (h : okG zs js = false) : endsR zs js ok P = ([], 1) := by simp [endsR, h]
theorem endsR_no {zs : List Int} {js : List (Int × Int)} {P : Nat → Bool} : endsR zs js false P = ([], 1) := by simp [endsR]
theorem endsR_yes {zs : List Int} {js : List (Int × Int)} {P : Nat → Bool} (h : okG zs js = true) : endsR zs js true P = (endsP P (List.finRange (js.length - 1)), 0) := by simp [endsR, h]
/-- a list in memory of its own, and a code -/
def ListR (w : World) (r : List Int × Int) (e : Ending) (w' : World) : Prop := ∃ v, e = .returned (.tuple #[v, .int .i64 r.2]) ∧ OwnI w' w.heap.size v r.1 ∧ Below w.heap.size w w'
def backP (js : List (Int × Int)) (k : Nat) : Bool := decide (rv js (k + 1) < rv js k)
def suspP (z : Int) (js : List (Int × Int)) (lo hi : Int) (k : Nat) : Bool := !posI z (rv js (k + 1) - rv js k) (lo * (rd js (k + 1) - rd js k)) (hi * (rd js (k + 1) - rd js k))
set_option maxRecDepth 100000 in
set_option maxHeartbeats 4000000 in
theorem specBackL_any (bS nS capS : Nat) (zs : List Int) (hnS : nS = zs.length) (b n cap : Nat) (js : List (Int × Int)) (hn : n = js.length) (w : World) (hS : Stk w bS zs) (hR : Rst w b js) :
    Calls Try.prog 32 #[.slice (some ⟨bS, 0, none⟩) nS capS, .slice (some ⟨b, 0, none⟩) n cap] w (ListR w (endsR zs js true (backP js))) := by
  obtain ⟨i0, hi, iz0, iz1, iz2⟩ := info_parts Try.infoI64
  have hle := hR.2.2
  rw [← hn] at hle
  have HV := hid (l04Ok_any bS nS capS zs hnS b n cap js hn w hS hR)
  have hC := hid hR.2.1
  have hbl := hR.1
  have hN := hid hn
  clear hS hR hnS
  cases hv : okG zs js with
  | false =>
    rw [endsR_log hv]
    rw [hv] at HV
    clear hv hn
    go_enter Try.func32, Try.ntmps32
    go_wp2_with fail
    refine HV.out.mono ?_
    rintro e w1 ⟨rfl, hB1⟩
    go_wp2_with fail
    go_ret2
    exact ⟨_, rfl, OwnI.nil _ _ _ _, hB1.alloc hB1.size _⟩
  | true =>
    rw [endsR_yes hv, ← hn]
    rw [hv] at HV
    clear hv hn
    obtain ⟨P, hP⟩ : ∃ P, backP js = P := ⟨_, rfl⟩
    have HP := hid (fun k => (congrFun hP k).symm)
    rw [hP]
    clear hP
    go_enter Try.func32, Try.ntmps32
    go_wp2_with fail
    refine HV.out.mono ?_
    rintro e w1 ⟨rfl, hB1⟩
    have rE := Row.new w1 2 []
    have B0 := hid (hB1.alloc hB1.size (.cells #[] 2))
    have O0 := hid (show (w1.alloc (.cells #[] 2)).ownsRow w.heap.size 2 1 (.slice (some ⟨w1.heap.size, 0, none⟩) 0 0) 0 [] from ⟨rfl, .inr ⟨w1.heap.size, 0, #[], rfl, hB1.size, rE, by omega, by unfold maxLen; omega, rfl, rfl⟩⟩)
    clear rE
    go_wp2_with fail
    go_loopw [6, 7] (fun v i wr => ∃ k c : Nat, c = k + 1 ∧ k ≤ n - 1 ∧ i = .int .i64 (c : Int) ∧ wr.ownsRow w.heap.size 2 1 v (endsP P ((List.finRange (n - 1)).take k)).length ((endsP P ((List.finRange (n - 1)).take k)).map (Value.int .i64)) ∧ Below w.heap.size w wr) (fun _ i _ => n - (intOf i).toNat)
    case atStart => exact ⟨0, 1, rfl, Nat.zero_le _, rfl, O0.out, B0.out⟩
    case round =>
      obtain ⟨k, c, hck, hk, rfl, hown, hB⟩ := hrel
      have HCK := hid hck
      have hc0 : (0 : Int) ≤ (c : Int) := by omega
      have HO := hid hown
      have hzr := hB.size
      by_cases hlt : k < n - 1
      · have hlt' : (c : Int) < (n : Int) := by omega
        have hcn : c < n := by omega
        have hkn : k < n := by omega
        have hk0 : (0 : Int) ≤ (k : Int) := by omega
        have e1 : (c : Int) - 1 = (k : Int) := by omega
        have tk : IntKind.i64.wrap (k : Int) = (k : Int) := IntWalk.i64_in _ (by omega)
        have hlen := hid (finTake_succ (n - 1) k hlt)
        have hel := endsP_len P ((List.finRange (n - 1)).take k)
        have hel2 : ((List.finRange (n - 1)).take k).length = k := finTake_length (n - 1) k hk
        have HEY := hid (endsP_yes P ((List.finRange (n - 1)).take k) ⟨k, hlt⟩)
        have HEN := hid (endsP_no P ((List.finRange (n - 1)).take k) ⟨k, hlt⟩)
        rw [← hlen.out] at HEY HEN
        dsimp only at HEY HEN
        have hlP := hid (rfl : P k = P k)
        obtain ⟨E, hE⟩ : ∃ E, endsP P ((List.finRange (n - 1)).take k) = E := ⟨_, rfl⟩
        rw [hE] at HO HEY HEN hel
        clear hown hE hck
        have x0 := (hB.cell (p := ⟨b, k * 2 + 1, none⟩) hbl).trans (hC.out k (by rw [← hN.out]; omega)).2
        have x1 := (hB.cell (p := ⟨b, c * 2 + 1, none⟩) hbl).trans (hC.out c (by rw [← hN.out]; omega)).2
        have HPk := hid (show P k = decide (rv js c < rv js k) by rw [HP.out k, HCK.out]; rfl)
        obtain ⟨x, hx⟩ : ∃ x, rv js k = x := ⟨_, rfl⟩
        obtain ⟨y, hy⟩ : ∃ x, rv js c = x := ⟨_, rfl⟩
        rw [hx] at x0 HPk
        rw [hy] at x1 HPk
        clear hx hy
        by_cases hd : y < x
        · have HY := hid (HEY.out (by rw [HPk.out]; exact decide_eq_true hd))
          go_wp2_with fail
          go_quiet (fail)
          obtain ⟨X, hX⟩ : ∃ X, X = wr.drewN nq := ⟨_, rfl⟩
          have hBX : Below w.heap.size w X := by rw [hX]; exact below_drewN hB _
          have HOX : X.ownsRow w.heap.size 2 1 u6 E.length (E.map (Value.int .i64)) := by rw [hX]; exact owns_below' HO.out (below_drewN (Below.refl _ _) _)
          rw [← hX]
          clear hX
          have news := Row.new X 2 [.int .i64 (c : Int)]
          have nc := news.cell 0
          simp only [List.getElem?_cons_zero] at nc
          have HO1 := hid (HOX.alloc (.cells #[.int .i64 (c : Int)] 2))
          have hzx := hBX.size
          go_wp2_with (at_builtin; refine wpList_append_own _ rfl _ _ 49 rfl w.heap.size 2 i0 (.int .i64 0) 1 8 Try.underlying49 hi iz0 iz1 iz2 rfl (by decide) _ _ _ rfl HO1.out ⟨X.heap.size, 0, none⟩ 1 1 [.int .i64 (c : Int)] rfl rfl (by intro j u hj; match j, hj with | 0, hj => simp at hj; subst hj; simp [Addr.add, nc]) (by intro u hu; simp at hu; subst hu; rfl) (by unfold maxLen; omega) (by omega) (by simp; omega) ?_; intro v' w2 hown' hgrow _)
          have hgs := hgrow.size
          simp only [World.size_alloc] at hgs
          have hl2 : (E ++ [(k : Int) + 1]).length = E.length + 1 := by simp
          have ec : (c : Int) = (k : Int) + 1 := by have := HCK.out; omega
          have ON := hid (show w2.ownsRow w.heap.size 2 1 v' (E ++ [(k : Int) + 1]).length ((E ++ [(k : Int) + 1]).map (Value.int .i64)) by rw [hl2, List.map_append, ← ec]; exact hown')
          have BN := hid ((hBX.alloc hzx (.cells #[.int .i64 (c : Int)] 2)).grown hgrow (by simp; omega) (fun q e => by by_cases hq : w.heap.size ≤ q; exact hq; exact absurd e.symm (owns_lt HO1.out (by omega))))
          clear hown' hgrow nc news
          go_roundw
          case rel => exact ⟨k + 1, c + 1, by have := HCK.out; omega, by omega, by go_num, by rw [HY.out]; exact ON.out, BN.out⟩
          case measure => simp [intOf]; omega
        · have HY := hid (HEN.out (by rw [HPk.out]; exact decide_eq_false hd))
          have hd' : x ≤ y := by omega
          go_wp2_with fail
          go_quiet (fail)
          go_wp2_with fail
          go_roundw
          case rel => exact ⟨k + 1, c + 1, by have := HCK.out; omega, by omega, by go_num, by rw [HY.out]; exact HO.out, below_drewN hB _⟩
          case measure => simp [intOf]; omega
      · obtain rfl : k = n - 1 := by omega
        have hge : ¬ (c : Int) < (n : Int) := by omega
        have hge' : (n : Int) ≤ (c : Int) := by omega
        rw [finTake_all (n - 1)] at HO
        have hl := endsP_len P (List.finRange (n - 1))
        have hl2 : (List.finRange (n - 1)).length = n - 1 := by simp
        have HI := hid (OwnI.of_owns HO.out (by omega))
        clear hown
        go_wp2_with fail
        go_ret2
        exact ⟨_, rfl, HI.out, hB⟩
end Go.Proofs.Ytbkfcklckngcbaa
