/- TurnBy: the model's. -/
import Derived.Test.YtjpiobcilpjfeaaTurn
namespace Go.Proofs.Ytjpiobcilpjfeaa
open Go.RowKit

theorem askR_no {zs : List Int} {js : List (Int × Int)} {turn : Int} (h : okM zs js = false) : askR zs js turn = 1 := by simp [askR, h]
theorem askR_turn {zs : List Int} {js : List (Int × Int)} {turn : Int} (h : okM zs js = true) (k : turnOk zs turn = false) : askR zs js turn = 2 := by simp [askR, h, k]
theorem askR_yes {zs : List Int} {js : List (Int × Int)} {turn : Int} (h : okM zs js = true) (k : turnOk zs turn = true) : askR zs js turn = 0 := by simp [askR, h, k]
set_option maxHeartbeats 2000000 in
theorem specTurnBy_any (b n cap g m cap' : Nat) (zs : List Int) (js : List (Int × Int)) (turn by_ : Int) (w : World) (hS : Stk w b zs) (hJ : Jst w g js) (hn : n = zs.length) (hm : m = js.length) (hb : ∀ j, j < js.length → (-128 ≤ jk js j ∧ jk js j ≤ 127) ∧ (-32768 ≤ jf js j ∧ jf js j ≤ 32767)) :
    Calls Try.prog 25 #[.agg #[.slice (some ⟨b, 0, none⟩) n cap, .slice (some ⟨g, 0, none⟩) m cap'], .int .i64 turn, .int .i64 by_] w fun e w' => e = .returned (.tuple #[.int .i64 (turnByR zs js turn by_).1, .int .i64 (turnByR zs js turn by_).2.1, .int .i64 (turnByR zs js turn by_).2.2]) ∧ Below w.heap.size w w' := by
  have bel : Below w.heap.size w (w.alloc (.cells #[.slice (some ⟨b, 0, none⟩) n cap, .slice (some ⟨g, 0, none⟩) m cap'] 31)) := (Below.refl _ w).alloc (Nat.le_refl _) _
  have M0 := hid (MoAt.new w b n cap g m cap' zs js hS hJ)
  have HA := hid (l02Asked_any w.heap.size b n cap g m cap' zs js turn _ M0.out hn hm hb)
  cases hv : okM zs js with
  | false =>
    rw [turnByR_no hv]
    rw [askR_no hv] at HA
    clear hS hJ hn hm hv hb
    go_enter Try.func25, Try.ntmps25
    go_wp2_with fail
    refine HA.out.mono ?_
    rintro e w1 ⟨rfl, hB⟩
    go_wp2_with fail
    go_ret3
    exact ⟨rfl, bel.trans (hB.mono (by simp))⟩
  | true =>
    have hv1 := (okM_out hv).1
    have sb := spanL_bd hv1
    have HS := hid (fun w1 (h : MoAt w1 w.heap.size b n cap g m cap' zs js) => l02Span_any w.heap.size b n cap g m cap' zs js w1 h hn hv1)
    cases ht : turnOk zs turn with
    | false =>
      rw [turnByR_turn hv ht]
      rw [askR_turn hv ht] at HA
      clear hS hJ hn hm hv hb ht hv1
      go_enter Try.func25, Try.ntmps25
      go_wp2_with fail
      refine HA.out.mono ?_
      rintro e w1 ⟨rfl, hB⟩
      go_wp2_with fail
      go_ret3
      exact ⟨rfl, bel.trans (hB.mono (by simp))⟩
    | true =>
      rw [askR_yes hv ht] at HA
      have tb := turnOk_out ht
      cases hy : byOk by_ with
      | false =>
        rw [turnByR_by hv hy]
        have yb := byOk_no hy
        have HI := hid (fun w => inr_no by_ (-1000000000000000) 1000000000000000 w (by omega))
        clear hS hJ hn hm hv hb ht hy hv1 yb
        go_enter Try.func25, Try.ntmps25
        go_wp2_with fail
        refine HA.out.mono ?_
        rintro e w1 ⟨rfl, hB⟩
        go_wp2_with fail
        refine (HI.out _).mono ?_
        rintro e w' ⟨rfl, rfl⟩
        go_wp2_with fail
        go_ret3
        exact ⟨rfl, bel.trans (hB.mono (by simp))⟩
      | true =>
        rw [turnByR_yes hv ht hy]
        have yb := byOk_yes hy
        have HI := hid (fun w => inr_yes by_ (-1000000000000000) 1000000000000000 w yb)
        obtain ⟨Z, hZ⟩ : ∃ Z, Z = spanL zs := ⟨_, rfl⟩
        rw [← hZ] at HS sb tb
        rw [← hZ]
        have HD := hid (fun w => l02Down_any (turn + by_) Z (by omega) (by omega) w)
        have em := Int.mul_ediv_add_emod (turn + by_) Z
        have m0 := Int.emod_nonneg (turn + by_) (show Z ≠ 0 by omega)
        have m1 := Int.emod_lt_of_pos (turn + by_) (show 0 < Z by omega)
        rw [Int.mul_comm] at em
        obtain ⟨x, hx⟩ : ∃ x, x = (turn + by_) % Z := ⟨_, rfl⟩
        obtain ⟨y, hy'⟩ : ∃ y, y = (turn + by_) / Z := ⟨_, rfl⟩
        rw [← hx] at em m0 m1
        rw [← hy'] at HD em
        rw [← hx, ← hy']
        have wy : IntKind.i64.wrap (turn + by_) = turn + by_ := IntWalk.i64_in _ (by omega)
        have q1 : -10000000000000000 ≤ y * Z := by omega
        have q2 : y * Z ≤ 10000000000000000 := by omega
        have HE := hid (show turn + by_ - y * Z = x by omega)
        clear hS hJ hn hm hv hb ht hy hv1 hZ hx hy' em m0 m1
        go_enter Try.func25, Try.ntmps25
        go_wp2_with fail
        refine HA.out.mono ?_
        rintro e w1 ⟨rfl, hB⟩
        have hz := hB.size
        go_wp2_with fail
        refine (HI.out _).mono ?_
        rintro e w' ⟨rfl, rfl⟩
        go_wp2_with fail
        refine (HS.out w1 (M0.out.keep hB)).mono ?_
        rintro e w2 ⟨rfl, hB2⟩
        simp only [World.size_alloc] at hB hz
        go_wp2_with fail
        refine (HD.out _).mono ?_
        rintro e w' ⟨rfl, rfl⟩
        go_wp2_with fail
        go_ret3
        exact ⟨by rw [← HE.out]; rfl, bel.trans ((hB.mono (by omega)).trans (hB2.mono (by omega)))⟩
end Go.Proofs.Ytjpiobcilpjfeaa
