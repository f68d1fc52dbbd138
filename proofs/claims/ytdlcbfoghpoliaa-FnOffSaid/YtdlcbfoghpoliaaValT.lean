/- Trains: valid ones; the program's and the model's. -/
import Derived.Test.YtdlcbfoghpoliaaNums
import Derived.Test.YtdlcbfoghpoliaaTeeth
namespace Go.Proofs.Ytdlcbfoghpoliaa
open Go.RowKit
theorem okT_nums {js : List (Int × Int)} (h1 : 1 ≤ js.length) (h4 : js.length ≤ 4) (h : ∀ j, j < 2 * js.length → wheelOk (num js j)) : okT js = true :=
  okT_all h1 h4 fun j hj => ⟨by rw [← num_even]; exact h _ (by omega), by rw [← num_odd]; exact h _ (by omega)⟩
theorem okT_num {js : List (Int × Int)} (h : okT js = true) (j : Nat) (hj : j < 2 * js.length) : wheelOk (num js j) := by
  have := (okT_out h).2.2 (j / 2) (by omega)
  unfold num
  split
  · exact this.1
  · exact this.2
theorem okT_numbad {js : List (Int × Int)} (j : Nat) (hj : j < 2 * js.length) (h : ¬ wheelOk (num js j)) : okT js = false := by
  cases e : okT js with
  | false => rfl
  | true => exact absurd (okT_num e j hj) h
theorem num_bd {js : List (Int × Int)} (hbd : Bd16 js) (j : Nat) (hj : j < 2 * js.length) : -32768 ≤ num js j ∧ num js j ≤ 32767 := by
  have := hbd (j / 2) (by omega)
  unfold num
  split
  · exact this.1
  · exact this.2
set_option maxHeartbeats 2000000 in
theorem implValidTrain_any (b n cap : Nat) (js : List (Int × Int)) (w : World) (hS : Pst w b js) (hn : n = js.length) (hbd : Bd16 js) :
    Calls Try.prog 21 #[.slice (some ⟨b, 0, none⟩) n cap] w (GivesB w (.bool (okT js))) := by
  have hle := hS.2.2
  rw [← hn] at hle
  by_cases hr : n < 1
  · rw [okT_len (by omega)]
    obtain rfl : n = 0 := by omega
    clear hS hn hbd hr
    go_enter Try.func21, Try.ntmps21
    go_wp2_with fail
    go_ret
    exact ⟨rfl, Below.refl _ _⟩
  by_cases hr2 : 4 < n
  · rw [okT_len (by omega)]
    clear hS hn hbd
    go_enter Try.func21, Try.ntmps21
    go_wp2_with fail
    go_ret
    exact ⟨rfl, Below.refl _ _⟩
  have n1 : 1 ≤ n := by omega
  have n4 : n ≤ 4 := by omega
  have HN := hid (numbers_any b n cap js w hS hn n1 n4)
  have hN := hid hn
  have HB := hid hbd
  clear hS hn hbd hr hr2
  go_enter Try.func21, Try.ntmps21
  go_wp2_with fail
  refine HN.out.mono ?_
  rintro e w1 ⟨g, c, rfl, hB1, hg1, hg2, hc⟩
  have HC := hid hc
  clear hc
  go_wp2_with fail
  go_loop [16] (fun i => ∃ k : Nat, k ≤ 2 * n ∧ i = .int .i64 k ∧ ∀ j, j < k → wheelOk (num js j)) (fun i => 2 * n - (intOf i).toNat)
  case atStart => exact ⟨0, Nat.zero_le _, rfl, fun j h => by omega⟩
  case round =>
    obtain ⟨k, hk, rfl, hok⟩ := hrel
    have HK := hid hok
    clear hok
    by_cases hlt : k < 2 * n
    · have cc := HC.out k hlt
      obtain ⟨b1, b2⟩ := num_bd HB.out k (by rw [← hN.out]; exact hlt)
      have hlt' : (k : Int) < ((2 * n : Nat) : Int) := by omega
      have hlt2 : (k : Int) < 2 * (n : Int) := by omega
      have hk0 : (0 : Int) ≤ (k : Int) := by omega
      have HF := hid (fun h => okT_numbad (js := js) k (by rw [← hN.out]; exact hlt) h)
      obtain ⟨x, hx⟩ : ∃ x, x = num js k := ⟨_, rfl⟩
      rw [← hx] at cc b1 b2 HF
      have HX := hid hx
      clear hx
      by_cases h1 : x < 8
      · have HG := hid (HF.out (by unfold wheelOk; omega))
        go_wp2_with fail
        go_ret
        exact ⟨by rw [HG.out]; rfl, hB1⟩
      by_cases h2 : 120 < x
      · have HG := hid (HF.out (by unfold wheelOk; omega))
        go_wp2_with fail
        go_ret
        exact ⟨by rw [HG.out]; rfl, hB1⟩
      have h3 : x ≤ 120 := by omega
      go_wp2_with fail
      go_round
      case rel => exact ⟨k + 1, by omega, by go_num, fun j hj => by
        by_cases e : j = k
        · rw [e, ← HX.out]; unfold wheelOk; omega
        · exact HK.out j (by omega)⟩
      case measure => simp [intOf]; omega
    · obtain rfl : k = 2 * n := by omega
      have HG := hid (okT_nums (js := js) (by rw [← hN.out]; omega) (by rw [← hN.out]; omega) (fun j hj => HK.out j (by rw [hN.out]; exact hj)))
      go_wp2_with fail
      go_ret
      exact ⟨by rw [HG.out]; rfl, hB1⟩

end Go.Proofs.Ytdlcbfoghpoliaa
