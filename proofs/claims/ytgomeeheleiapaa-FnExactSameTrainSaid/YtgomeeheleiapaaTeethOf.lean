/- Trains: valid ones and their teeth; the program's and the model's. -/
import Derived.Test.YtgomeeheleiapaaNums
import Derived.Test.YtgomeeheleiapaaTeeth
namespace Go.Proofs.Ytgomeeheleiapaa
open Go.RowKit
theorem okT_nums {js : List (Int × Int)} (h1 : 1 ≤ js.length) (h4 : js.length ≤ 4) (h : ∀ j, j < 2 * js.length → wheelOk (num js j)) : okT js = true :=
  okT_all h1 h4 fun j hj => ⟨by rw [← num_even]; exact h _ (by omega), by rw [← num_odd]; exact h _ (by omega)⟩
theorem okT_num {js : List (Int × Int)} (h : okT js = true) (j : Nat) (hj : j < 2 * js.length) : wheelOk (num js j) := by
  have := (okT_out h).2.2 (j / 2) (by omega)
  unfold num
  split
  · exact this.1
  · exact this.2
theorem okT_numbad {js : List (Int × Int)} (j : Nat) (hj : j < 2 * js.length) (h : ¬ wheelOk (num js j)) : okT js = false := by
  cases e : okT js with
  | false => rfl
  | true => exact absurd (okT_num e j hj) h
theorem num_bd {js : List (Int × Int)} (hbd : Bd16 js) (j : Nat) (hj : j < 2 * js.length) : -32768 ≤ num js j ∧ num js j ≤ 32767 := by
  have := hbd (j / 2) (by omega)
  unfold num
  split
  · exact this.1
  · exact this.2
set_option maxHeartbeats 2000000 in
theorem implValidTrain_any (b n cap : Nat) (js : List (Int × Int)) (w : World) (hS : Pst w b js) (hn : n = js.length) (hbd : Bd16 js) :
    Calls Try.prog 28 #[.slice (some ⟨b, 0, none⟩) n cap] w (GivesB w (.bool (okT js))) := by
  have hle := hS.2.2
  rw [← hn] at hle
  by_cases hr : n < 1
  · rw [okT_len (by omega)]
    obtain rfl : n = 0 := by omega
    clear hS hn hbd hr
    go_enter Try.func28, Try.ntmps28
    go_wp2_with fail
    go_ret
    exact ⟨rfl, Below.refl _ _⟩
  by_cases hr2 : 4 < n
  · rw [okT_len (by omega)]
    clear hS hn hbd
    go_enter Try.func28, Try.ntmps28
    go_wp2_with fail
    go_ret
    exact ⟨rfl, Below.refl _ _⟩
  have n1 : 1 ≤ n := by omega
  have n4 : n ≤ 4 := by omega
  have HN := hid (numbers_any b n cap js w hS hn n1 n4)
  have hN := hid hn
  have HB := hid hbd
  clear hS hn hbd hr hr2
  go_enter Try.func28, Try.ntmps28
  go_wp2_with fail
  refine HN.out.mono ?_
  rintro e w1 ⟨g, c, rfl, hB1, hg1, hg2, hc⟩
  have HC := hid hc
  clear hc
  go_wp2_with fail
  go_loop [16] (fun i => ∃ k : Nat, k ≤ 2 * n ∧ i = .int .i64 k ∧ ∀ j, j < k → wheelOk (num js j)) (fun i => 2 * n - (intOf i).toNat)
  case atStart => exact ⟨0, Nat.zero_le _, rfl, fun j h => by omega⟩
  case round =>
    obtain ⟨k, hk, rfl, hok⟩ := hrel
    have HK := hid hok
    clear hok
    by_cases hlt : k < 2 * n
    · have cc := HC.out k hlt
      obtain ⟨b1, b2⟩ := num_bd HB.out k (by rw [← hN.out]; exact hlt)
      have hlt' : (k : Int) < ((2 * n : Nat) : Int) := by omega
      have hlt2 : (k : Int) < 2 * (n : Int) := by omega
      have hk0 : (0 : Int) ≤ (k : Int) := by omega
      have HF := hid (fun h => okT_numbad (js := js) k (by rw [← hN.out]; exact hlt) h)
      obtain ⟨x, hx⟩ : ∃ x, x = num js k := ⟨_, rfl⟩
      rw [← hx] at cc b1 b2 HF
      have HX := hid hx
      clear hx
      by_cases h1 : x < 8
      · have HG := hid (HF.out (by unfold wheelOk; omega))
        go_wp2_with fail
        go_ret
        exact ⟨by rw [HG.out]; rfl, hB1⟩
      by_cases h2 : 120 < x
      · have HG := hid (HF.out (by unfold wheelOk; omega))
        go_wp2_with fail
        go_ret
        exact ⟨by rw [HG.out]; rfl, hB1⟩
      have h3 : x ≤ 120 := by omega
      go_wp2_with fail
      go_round
      case rel => exact ⟨k + 1, by omega, by go_num, fun j hj => by
        by_cases e : j = k
        · rw [e, ← HX.out]; unfold wheelOk; omega
        · exact HK.out j (by omega)⟩
      case measure => simp [intOf]; omega
    · obtain rfl : k = 2 * n := by omega
      have HG := hid (okT_nums (js := js) (by rw [← hN.out]; omega) (by rw [← hN.out]; omega) (fun j hj => HK.out j (by rw [hN.out]; exact hj)))
      go_wp2_with fail
      go_ret
      exact ⟨by rw [HG.out]; rfl, hB1⟩

/-- the sum of the first k numbers -/
def sumT (js : List (Int × Int)) : Nat → Int
  | 0 => 0
  | k + 1 => sumT js k + num js k
theorem sumT_bd {js : List (Int × Int)} (h : ∀ j, j < 2 * js.length → wheelOk (num js j)) : ∀ k, k ≤ 2 * js.length → 0 ≤ sumT js k ∧ sumT js k ≤ 120 * k
  | 0, _ => by simp [sumT]
  | k + 1, hk => by
    have ih := sumT_bd h k (by omega)
    obtain ⟨a, b⟩ := h k (by omega)
    simp only [sumT]
    omega
set_option maxHeartbeats 2000000 in
theorem teeth_any (b n cap : Nat) (js : List (Int × Int)) (w : World) (hS : Pst w b js) (hn : n = js.length) (hv : okT js = true) :
    Calls Try.prog 59 #[.slice (some ⟨b, 0, none⟩) n cap] w (GivesB w (.int .i64 (sumT js (2 * n)))) := by
  obtain ⟨n1, n4, _⟩ := okT_out hv
  rw [← hn] at n1 n4
  have HN := hid (numbers_any b n cap js w hS hn n1 n4)
  have hN := hid hn
  have HV := hid (fun j hj => okT_num hv j hj)
  clear hS hn hv
  go_enter Try.func59, Try.ntmps59
  go_wp2_with fail
  refine HN.out.mono ?_
  rintro e w1 ⟨g, c, rfl, hB1, hg1, hg2, hc⟩
  have HC := hid hc
  clear hc
  go_wp2_with fail
  go_loop [3, 9] (fun s i => ∃ k : Nat, k ≤ 2 * n ∧ i = .int .i64 k ∧ s = .int .i64 (sumT js k)) (fun _ i => 2 * n - (intOf i).toNat)
  case atStart => exact ⟨0, Nat.zero_le _, rfl, rfl⟩
  case round =>
    obtain ⟨k, hk, rfl, rfl⟩ := hrel
    by_cases hlt : k < 2 * n
    · have cc := HC.out k hlt
      obtain ⟨b1, b2⟩ := HV.out k (by rw [← hN.out]; exact hlt)
      have sb := sumT_bd HV.out k (by rw [← hN.out]; exact hk)
      have hlt' : (k : Int) < ((2 * n : Nat) : Int) := by omega
      have hlt2 : (k : Int) < 2 * (n : Int) := by omega
      have hk0 : (0 : Int) ≤ (k : Int) := by omega
      have HE : Hid (sumT js (k + 1) = sumT js k + num js k) := hid rfl
      obtain ⟨x, hx⟩ : ∃ x, x = num js k := ⟨_, rfl⟩
      obtain ⟨s, hs⟩ : ∃ x, x = sumT js k := ⟨_, rfl⟩
      rw [← hx] at cc b1 b2 HE
      rw [← hs] at sb HE ⊢
      clear hx hs
      obtain ⟨s1, s2⟩ := sb
      have s3 : s ≤ 960 := by omega
      go_wp2_with fail
      go_round
      case rel => exact ⟨k + 1, by omega, by go_num, by rw [HE.out]⟩
      case measure => simp [intOf]; omega
    · obtain rfl : k = 2 * n := by omega
      go_wp2_with fail
      go_ret
      exact ⟨rfl, hB1⟩
def teethR (js : List (Int × Int)) : Int × Int := if okT js then (sumT js (2 * js.length), 0) else (0, 1)
theorem teethR_yes {js : List (Int × Int)} (h : okT js = true) : teethR js = (sumT js (2 * js.length), 0) := by simp [teethR, h]
theorem teethR_no {js : List (Int × Int)} (h : okT js = false) : teethR js = (0, 1) := by simp [teethR, h]
theorem implTeethOf_any (b n cap : Nat) (js : List (Int × Int)) (w : World) (hS : Pst w b js) (hn : n = js.length) (hbd : Bd16 js) :
    Calls Try.prog 35 #[.slice (some ⟨b, 0, none⟩) n cap] w (GivesB w (.tuple #[.int .i64 (teethR js).1, .int .i64 (teethR js).2])) := by
  have HV := hid (implValidTrain_any b n cap js w hS hn hbd)
  cases hv : okT js with
  | false =>
    rw [teethR_no hv]
    rw [hv] at HV
    clear hS hn hbd hv
    go_enter Try.func35, Try.ntmps35
    go_wp2_with fail
    refine HV.out.mono ?_
    rintro e w1 ⟨rfl, hB1⟩
    go_wp2_with fail
    go_ret2
    exact ⟨rfl, hB1⟩
  | true =>
    rw [teethR_yes hv, ← hn]
    rw [hv] at HV
    have HT := hid (fun w1 (h : Pst w1 b js) => teeth_any b n cap js w1 h hn hv)
    have HS := hid hS
    have hbl := hS.1
    clear hS hn hbd hv
    go_enter Try.func35, Try.ntmps35
    go_wp2_with fail
    refine HV.out.mono ?_
    rintro e w1 ⟨rfl, hB1⟩
    go_wp2_with fail
    refine (HT.out w1 (HS.out.below hB1 hbl)).mono ?_
    rintro e w2 ⟨rfl, hB2⟩
    have hz := hB1.size
    go_wp2_with fail
    go_ret2
    exact ⟨rfl, hB1.trans (hB2.mono (by omega))⟩
set_option maxHeartbeats 2000000 in
theorem specTeethOf_any (b n cap : Nat) (js : List (Int × Int)) (w : World) (hS : Pst w b js) (hn : n = js.length) (hbd : Bd16 js) :
    Calls Try.prog 34 #[.slice (some ⟨b, 0, none⟩) n cap] w fun e w' => e = .returned (.tuple #[.int .i64 (teethR js).1, .int .i64 (teethR js).2]) ∧ ∃ d, w' = w.drewN d := by
  have HT := hid (l03Train_any b n cap js w hS hn hbd)
  cases hv : okT js with
  | false =>
    rw [teethR_no hv]
    rw [hv] at HT
    clear hS hn hbd hv
    go_enter Try.func34, Try.ntmps34
    go_wp2_with fail
    refine HT.out.mono ?_
    rintro e w1 ⟨rfl, d, rfl⟩
    go_wp2_with fail
    go_ret2
    exact ⟨rfl, d, rfl⟩
  | true =>
    rw [teethR_yes hv, ← hn]
    rw [hv] at HT
    have hC := hid hS.2.1
    have hN := hid hn
    have HV := hid (fun j hj => okT_num hv j hj)
    obtain ⟨n1, n4, _⟩ := okT_out hv
    rw [← hn] at n1 n4
    clear hS hn hbd hv
    go_enter Try.func34, Try.ntmps34
    go_wp2_with fail
    refine HT.out.mono ?_
    rintro e w1 ⟨rfl, d0, rfl⟩
    go_wp2_with fail
    go_loopw [4, 5] (fun s i wr => ∃ k : Nat, k ≤ n ∧ i = .int .i64 k ∧ s = .int .i64 (sumT js (2 * k)) ∧ ∃ d, wr = w.drewN d) (fun _ i _ => n - (intOf i).toNat)
    case atStart => exact ⟨0, Nat.zero_le _, rfl, rfl, _, rfl⟩
    case round =>
      obtain ⟨k, hk, rfl, rfl, d, rfl⟩ := hrel
      by_cases hlt : k < n
      · have cc := hC.out k (by rw [← hN.out]; exact hlt)
        have c1 := cc.1
        have c2 := cc.2
        obtain ⟨b1, b2⟩ := HV.out (k * 2) (by rw [← hN.out]; omega)
        obtain ⟨b3, b4⟩ := HV.out (k * 2 + 1) (by rw [← hN.out]; omega)
        have sb := sumT_bd HV.out (2 * k) (by rw [← hN.out]; omega)
        have hlt' : (k : Int) < (n : Int) := by omega
        have hk0 : (0 : Int) ≤ (k : Int) := by omega
        rw [num_even] at b1 b2
        rw [num_odd] at b3 b4
        have HE : Hid (sumT js (2 * (k + 1)) = sumT js (2 * k) + (pd js k + pn js k)) := hid (by
          rw [show 2 * (k + 1) = 2 * k + 1 + 1 from by omega]
          simp only [sumT]
          rw [show 2 * k = k * 2 from by omega, num_even, num_odd]
          omega)
        obtain ⟨x, hx⟩ : ∃ x, x = pd js k := ⟨_, rfl⟩
        obtain ⟨y, hy⟩ : ∃ x, x = pn js k := ⟨_, rfl⟩
        obtain ⟨s, hs⟩ : ∃ x, x = sumT js (2 * k) := ⟨_, rfl⟩
        rw [← hx] at c1 b1 b2 HE
        rw [← hy] at c2 b3 b4 HE
        rw [← hs] at sb HE ⊢
        clear hx hs hy cc
        obtain ⟨s1, s2⟩ := sb
        have s3 : s ≤ 960 := by omega
        have t1 : IntKind.i64.wrap x = x := IntWalk.i64_in _ (by omega)
        have t2 : IntKind.i64.wrap y = y := IntWalk.i64_in _ (by omega)
        have t3 : IntKind.i64.wrap (x + y) = x + y := IntWalk.i64_in _ (by omega)
        have t4 : IntKind.i64.wrap (s + (x + y)) = s + (x + y) := IntWalk.i64_in _ (by omega)
        go_wp2_with fail
        go_quiet (fail)
        go_wp2_with fail
        go_roundw
        case rel => exact ⟨k + 1, by omega, by go_num, by rw [HE.out], _, rfl⟩
        case measure => simp [intOf]; omega
      · obtain rfl : k = n := by omega
        go_wp2_with fail
        go_ret2
        exact ⟨rfl, d, rfl⟩
end Go.Proofs.Ytgomeeheleiapaa
