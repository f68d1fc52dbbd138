/- Trains: which are valid, their numbers; of the program and of the model. -/
import Derived.Test.YtdlcbfoghpoliaaPairs
import Derived.Test.YtdlcbfoghpoliaaValid
import Derived.Test.YtdlcbfoghpoliaaRatio
import Derived.Deep.QuietTactic
import Derived.OwnWalk
namespace Go.Proofs.Ytdlcbfoghpoliaa
open Go.RowKit

def wheelOk (x : Int) : Prop := 8 ≤ x ∧ x ≤ 120
def okTTo (js : List (Int × Int)) (k : Nat) : Prop := ∀ j, j < k → wheelOk (pd js j) ∧ wheelOk (pn js j)
def okT (js : List (Int × Int)) : Bool := decide (1 ≤ js.length ∧ js.length ≤ 4) && (List.range js.length).all fun j => decide (8 ≤ pd js j ∧ pd js j ≤ 120 ∧ 8 ≤ pn js j ∧ pn js j ≤ 120)
theorem okT_len {js : List (Int × Int)} (h : js.length < 1 ∨ 4 < js.length) : okT js = false := by
  rw [okT, decide_eq_false (by omega), Bool.false_and]
theorem okT_out {js : List (Int × Int)} (h : okT js = true) : 1 ≤ js.length ∧ js.length ≤ 4 ∧ okTTo js js.length := by
  simp only [okT, Bool.and_eq_true, decide_eq_true_eq, List.all_eq_true, List.mem_range] at h
  exact ⟨h.1.1, h.1.2, fun j hj => by have := h.2 j hj; exact ⟨⟨this.1, this.2.1⟩, ⟨this.2.2.1, this.2.2.2⟩⟩⟩
theorem okT_all {js : List (Int × Int)} (h1 : 1 ≤ js.length) (h2 : js.length ≤ 4) (h : okTTo js js.length) : okT js = true := by
  simp only [okT, Bool.and_eq_true, decide_eq_true_eq, List.all_eq_true, List.mem_range]
  exact ⟨⟨h1, h2⟩, fun j hj => ⟨(h j hj).1.1, (h j hj).1.2, (h j hj).2.1, (h j hj).2.2⟩⟩
theorem okT_bad {js : List (Int × Int)} (k : Nat) (hk : k < js.length) (h : ¬ (wheelOk (pd js k) ∧ wheelOk (pn js k))) : okT js = false := by
  cases e : okT js with
  | false => rfl
  | true => exact absurd ((okT_out e).2.2 k hk) h
theorem okTTo_zero (js : List (Int × Int)) : okTTo js 0 := fun j h => by omega
theorem okTTo_succ {js : List (Int × Int)} {k : Nat} (h : okTTo js k) (h1 : wheelOk (pd js k)) (h2 : wheelOk (pn js k)) : okTTo js (k + 1) := fun j hj => by
  by_cases e : j = k
  · subst e; exact ⟨h1, h2⟩
  · exact h j (by omega)
/-- 16 bits each -/
def Bd16 (js : List (Int × Int)) : Prop := ∀ j, j < js.length → (-32768 ≤ pd js j ∧ pd js j ≤ 32767) ∧ (-32768 ≤ pn js j ∧ pn js j ≤ 32767)

/-- the numbers of a train, one behind the other -/
def num (js : List (Int × Int)) (i : Nat) : Int := if i % 2 = 0 then pd js (i / 2) else pn js (i / 2)
def nums (js : List (Int × Int)) (k : Nat) : List Int := (List.range k).map (num js)
theorem nums_zero (js : List (Int × Int)) : nums js 0 = [] := rfl
theorem nums_len (js : List (Int × Int)) (k : Nat) : (nums js k).length = k := by simp [nums]
theorem nums_succ (js : List (Int × Int)) (k : Nat) : nums js (k + 1) = nums js k ++ [num js k] := by simp [nums, List.range_succ]
theorem nums_get (js : List (Int × Int)) (k j : Nat) (h : j < k) : (nums js k)[j]? = some (num js j) := by simp [nums, h]
theorem num_even (js : List (Int × Int)) (k : Nat) : num js (k * 2) = pd js k := by
  have h1 : (k * 2) % 2 = 0 := by omega
  have h2 : (k * 2) / 2 = k := by omega
  rw [num, if_pos h1, h2]
theorem num_odd (js : List (Int × Int)) (k : Nat) : num js (k * 2 + 1) = pn js k := by
  have h1 : ¬ (k * 2 + 1) % 2 = 0 := by omega
  have h2 : (k * 2 + 1) / 2 = k := by omega
  rw [num, if_neg h1, h2]

theorem teeth_yes (n : Int) (w : World) (h : wheelOk n) : Calls Try.prog 27 #[.int .i64 n] w fun e w' => e = .returned (.bool true) ∧ w = w' := by
  have H := hid (fun w => inr_yes n 8 120 w h)
  clear h
  go_enter Try.func27, Try.ntmps27
  go_wp2_with fail
  refine (H.out _).mono ?_
  rintro e w' ⟨rfl, rfl⟩
  go_wp2_with fail
  go_ret
  exact ⟨rfl, rfl⟩
theorem teeth_no (n : Int) (w : World) (h : ¬ wheelOk n) : Calls Try.prog 27 #[.int .i64 n] w fun e w' => e = .returned (.bool false) ∧ w = w' := by
  have H := hid (fun w => inr_no n 8 120 w (by unfold wheelOk at h; omega))
  clear h
  go_enter Try.func27, Try.ntmps27
  go_wp2_with fail
  refine (H.out _).mono ?_
  rintro e w' ⟨rfl, rfl⟩
  go_wp2_with fail
  go_ret
  exact ⟨rfl, rfl⟩
set_option maxHeartbeats 2000000 in
theorem l03Train_any (b n cap : Nat) (js : List (Int × Int)) (w : World) (hS : Pst w b js) (hn : n = js.length) (hbd : Bd16 js) :
    Calls Try.prog 14 #[.slice (some ⟨b, 0, none⟩) n cap] w fun e w' => e = .returned (.bool (okT js)) ∧ ∃ d, w' = w.drewN d := by
  have hle := hS.2.2
  by_cases hr : n < 1 ∨ 4 < n
  · rw [okT_len (by omega)]
    have HI := hid (fun w => inr_no (n : Int) 1 4 w (by omega))
    rw [← hn] at hle
    clear hS hn hbd hr
    go_enter Try.func14, Try.ntmps14
    go_wp2_with fail
    refine (HI.out _).mono ?_
    rintro e w' ⟨rfl, rfl⟩
    go_wp2_with fail
    go_ret
    exact ⟨rfl, 0, rfl⟩
  · have HI := hid (fun w => inr_yes (n : Int) 1 4 w (by omega))
    have hC := hid hS.2.1
    have hN := hid hn
    have HB := hid hbd
    have n1 : 1 ≤ n := by omega
    have n4 : n ≤ 4 := by omega
    rw [← hn] at hle
    clear hS hn hbd hr
    go_enter Try.func14, Try.ntmps14
    go_wp2_with fail
    refine (HI.out _).mono ?_
    rintro e w' ⟨rfl, rfl⟩
    go_wp2_with fail
    go_loopw [3] (fun i wr => ∃ k : Nat, k ≤ n ∧ i = .int .i64 k ∧ okTTo js k ∧ ∃ d, wr = w.drewN d) (fun i _ => n - (intOf i).toNat)
    case atStart => exact ⟨0, Nat.zero_le _, rfl, okTTo_zero _, 0, rfl⟩
    case round =>
      obtain ⟨k, hk, rfl, hok, d, rfl⟩ := hrel
      by_cases hlt : k < n
      · have cc := hC.out k (by rw [← hN.out]; exact hlt)
        have c1 := cc.1
        have c2 := cc.2
        have bb := HB.out k (by rw [← hN.out]; exact hlt)
        obtain ⟨⟨b1, b2⟩, b3, b4⟩ := bb
        have hok1 := hid hok
        have hlt' : (k : Int) < (n : Int) := by omega
        have hk0 : (0 : Int) ≤ (k : Int) := by omega
        obtain ⟨x, hx⟩ : ∃ x, x = pd js k := ⟨_, rfl⟩
        obtain ⟨y, hy⟩ : ∃ x, x = pn js k := ⟨_, rfl⟩
        have HX := hid hx
        have HY := hid hy
        rw [← hx] at c1 b1 b2
        rw [← hy] at c2 b3 b4
        clear cc hok hx hy
        have t1 : IntKind.i64.wrap x = x := IntWalk.i64_in _ (by omega)
        have t2 : IntKind.i64.wrap y = y := IntWalk.i64_in _ (by omega)
        by_cases hx : wheelOk x
        · have H1 := hid (fun w => teeth_yes x w hx)
          by_cases hy : wheelOk y
          · have H2 := hid (fun w => teeth_yes y w hy)
            have HW := hid (And.intro hx hy)
            clear hx hy
            go_wp2_with fail
            refine (H1.out _).mono ?_
            rintro e w' ⟨rfl, rfl⟩
            go_wp2_with fail
            refine (H2.out _).mono ?_
            rintro e w' ⟨rfl, rfl⟩
            go_wp2_with fail
            go_roundw
            case rel => exact ⟨k + 1, by omega, by go_num, okTTo_succ hok1.out (by rw [← HX.out]; exact HW.out.1) (by rw [← HY.out]; exact HW.out.2), d, rfl⟩
            case measure => simp [intOf]; omega
          · have H2 := hid (fun w => teeth_no y w hy)
            have HF := hid (okT_bad k (by rw [← hN.out]; exact hlt) (fun h => hy (by rw [HY.out]; exact h.2)))
            clear hx hy
            go_wp2_with fail
            refine (H1.out _).mono ?_
            rintro e w' ⟨rfl, rfl⟩
            go_wp2_with fail
            refine (H2.out _).mono ?_
            rintro e w' ⟨rfl, rfl⟩
            go_wp2_with fail
            go_ret
            exact ⟨by rw [HF.out]; rfl, d, rfl⟩
        · have H1 := hid (fun w => teeth_no x w hx)
          have HF := hid (okT_bad k (by rw [← hN.out]; exact hlt) (fun h => hx (by rw [HX.out]; exact h.1)))
          clear hx
          go_wp2_with fail
          refine (H1.out _).mono ?_
          rintro e w' ⟨rfl, rfl⟩
          go_wp2_with fail
          go_ret
          exact ⟨by rw [HF.out]; rfl, d, rfl⟩
      · obtain rfl : k = n := by omega
        have HF := hid (okT_all (js := js) (by rw [← hN.out]; omega) (by rw [← hN.out]; omega) (by rw [← hN.out]; exact hok))
        clear hok
        go_wp2_with fail
        go_ret
        exact ⟨by rw [HF.out]; rfl, d, rfl⟩
theorem driver_any (x y : Int) (w : World) : Calls Try.prog 36 #[.agg #[.int .i16 x, .int .i16 y]] w (GivesB w (.int .i16 x)) := by
  go_enter Try.func36, Try.ntmps36
  go_wp2
  go_ret
  exact ⟨rfl, (Below.refl _ _).alloc (Nat.le_refl _) _⟩
theorem driven_any (x y : Int) (w : World) : Calls Try.prog 37 #[.agg #[.int .i16 x, .int .i16 y]] w (GivesB w (.int .i16 y)) := by
  go_enter Try.func37, Try.ntmps37
  go_wp2
  go_ret
  exact ⟨rfl, (Below.refl _ _).alloc (Nat.le_refl _) _⟩
theorem Try.info16 : (Try.prog.info? 39).map (fun i => (i.zero, i.size, i.bytes)) = some (some (.int .i16 0), 1, 2) := by kernel_rfl
end Go.Proofs.Ytdlcbfoghpoliaa
