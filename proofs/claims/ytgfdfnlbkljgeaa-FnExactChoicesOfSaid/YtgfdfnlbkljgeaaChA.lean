/- How many values are in a photo: the program's and the model's. -/
import Derived.Test.YtgfdfnlbkljgeaaCnM
import Derived.Test.YtgfdfnlbkljgeaaVpB
import Derived.Test.YtgfdfnlbkljgeaaVpC
namespace Go.Proofs.Ytgfdfnlbkljgeaa
open Go.RowKit
def chP (ps : List (Int × Int)) : Nat → Int
  | 0 => 1
  | k + 1 => chP ps k * cntM (pa ps k) (pb ps k)
theorem chP_bd {ps : List (Int × Int)} (hp : Ph ps) : ∀ k, 0 ≤ chP ps k ∧ chP ps k ≤ 128 ^ k
  | 0 => by simp [chP]
  | k + 1 => by
    have ih := chP_bd hp k
    have c := cntM_bd (hp k).1 (hp k).2
    simp only [chP]
    refine ⟨Int.mul_nonneg ih.1 c.1, ?_⟩
    rw [Int.pow_succ]
    exact Int.mul_le_mul ih.2 c.2 c.1 (by have := ih.1; omega)
theorem pow128 : ∀ k, k ≤ 8 → (128 : Int) ^ k ≤ 72057594037927936
  | 0, _ => by decide
  | 1, _ => by decide
  | 2, _ => by decide
  | 3, _ => by decide
  | 4, _ => by decide
  | 5, _ => by decide
  | 6, _ => by decide
  | 7, _ => by decide
  | 8, _ => by decide
  | n + 9, h => by omega
theorem chP_le {ps : List (Int × Int)} (hp : Ph ps) (k : Nat) (hk : k ≤ 8) : 0 ≤ chP ps k ∧ chP ps k ≤ 72057594037927936 := by
  have a := chP_bd hp k
  have c := pow128 k hk
  omega
def chR (zs : List Int) (ps : List (Int × Int)) : Int × Int := if okPh zs ps then (chP ps zs.length, 0) else (0, 1)
theorem chR_no {zs : List Int} {ps : List (Int × Int)} (h : okPh zs ps = false) : chR zs ps = (0, 1) := by simp [chR, h]
theorem chR_yes {zs : List Int} {ps : List (Int × Int)} (h : okPh zs ps = true) : chR zs ps = (chP ps zs.length, 0) := by simp [chR, h]
theorem okPh_ok' {zs : List Int} {ps : List (Int × Int)} (h : okPh zs ps = true) : okL zs = true := by
  simp only [okPh, Bool.and_eq_true] at h
  exact h.1
set_option maxRecDepth 100000 in
set_option maxHeartbeats 1000000 in
theorem choices_any (a : Option Addr) (n cap : Nat) (ps : List (Int × Int)) (w : World) (hp : Ph ps) (hn : n ≤ 8) :
    Calls Try.prog 59 #[.slice a n cap, .agg (phL ps).toArray] w fun e w' => e = .returned (.int .i64 (chP ps n)) ∧ Below w.heap.size w w' := by
  have r0 := Row.new w 31 (phL ps)
  have hB : Below w.heap.size w (w.alloc (.cells (phL ps).toArray 31)) := (Below.refl _ _).alloc (Nat.le_refl _) _
  have HP := hid hp
  clear hp
  go_enter Try.func59, Try.ntmps59
  go_wp2_with fail
  go_loopw [5, 9] (fun q i wr => ∃ k : Nat, k ≤ n ∧ i = .int .i64 k ∧ q = .int .i64 (chP ps k) ∧ Row wr w.heap.size 31 (phL ps) ∧ Below w.heap.size w wr) (fun _ i _ => n - (intOf i).toNat)
  case atStart => exact ⟨0, Nat.zero_le _, rfl, rfl, r0, hB⟩
  case round =>
    clear r0 hB
    obtain ⟨k, hk, rfl, rfl, r0, hB⟩ := hrel
    have ha := chP_le HP.out k (by omega)
    by_cases hlt : k < n
    · obtain ⟨hx, hy⟩ := HP.out k
      have hc := cntM_bd hx hy
      have hn1 := chP_le HP.out (k + 1) (by omega)
      have HS := hid (show chP ps (k + 1) = chP ps k * cntM (pa ps k) (pb ps k) from rfl)
      rw [HS.out] at hn1
      obtain ⟨q1, q2⟩ := phL_at ps k (by omega)
      have HM := hid (fun w => count_any (pa ps k) (pb ps k) w hx hy)
      have c1 := (r0.cell (k * 2)).trans q1
      have c2 := (r0.cell (k * 2 + 1)).trans q2
      have HR := hid r0
      have hzr := hB.size
      have HB := hid hB
      have hk8 : (k : Int) < 8 := by omega
      have hlt0 : (k : Int) < (n : Int) := by omega
      obtain ⟨p, hp⟩ : ∃ p, p = chP ps k := ⟨_, rfl⟩
      obtain ⟨c, hcc⟩ : ∃ c, c = cntM (pa ps k) (pb ps k) := ⟨_, rfl⟩
      rw [← hp] at ha hn1 HS ⊢
      rw [← hcc] at hc hn1 HS HM
      have hn1a := hn1.1
      have hn1b := hn1.2
      have hca := hc.1
      have hcb := hc.2
      have haa := ha.1
      have hab := ha.2
      clear hp hcc hx hy q1 q2 r0 hB ha hc hn1
      go_wp2_with fail
      with_reducible refine (HM.out _).mono ?_
      rintro e w1 ⟨rfl, hC⟩
      clear c1 c2
      go_wp2_with fail
      go_roundw
      case rel => exact ⟨k + 1, by omega, by go_num, by rw [HS.out], HR.out.below hC HR.out.lt, HB.out.trans (hC.mono hzr)⟩
      case measure => simp [intOf]; omega
    · obtain rfl : n = k := by omega
      go_wp2_with fail
      go_ret
      exact ⟨rfl, hB⟩
set_option maxRecDepth 100000 in
set_option maxHeartbeats 1000000 in
theorem l05Choices_any (g n : Nat) (ps : List (Int × Int)) (w : World) (r0 : Row w g 31 (phL ps)) (hp : Ph ps) (hn : n ≤ 8) :
    Calls Try.prog 58 #[.pointer (some ⟨g, 0, none⟩), .int .i64 (n : Int)] w fun e w' => e = .returned (.int .i64 (chP ps n)) ∧ Below w.heap.size w w' := by
  have hB : Below w.heap.size w w := Below.refl _ _
  have HP := hid hp
  clear hp
  go_enter Try.func58, Try.ntmps58
  go_wp2_with fail
  go_loopw [5, 6] (fun q i wr => ∃ k : Nat, k ≤ n ∧ i = .int .i64 k ∧ q = .int .i64 (chP ps k) ∧ Row wr g 31 (phL ps) ∧ Below w.heap.size w wr) (fun _ i _ => n - (intOf i).toNat)
  case atStart => exact ⟨0, Nat.zero_le _, rfl, rfl, r0, hB⟩
  case round =>
    clear r0 hB
    obtain ⟨k, hk, rfl, rfl, r0, hB⟩ := hrel
    have ha := chP_le HP.out k (by omega)
    by_cases hlt : k < n
    · obtain ⟨hx, hy⟩ := HP.out k
      have hc := cntM_bd hx hy
      have hn1 := chP_le HP.out (k + 1) (by omega)
      have HS := hid (show chP ps (k + 1) = chP ps k * cntM (pa ps k) (pb ps k) from rfl)
      rw [HS.out] at hn1
      obtain ⟨q1, q2⟩ := phL_at ps k (by omega)
      have HM := hid (fun w => l05Count_any (pa ps k) (pb ps k) w hx hy)
      have c1 := (r0.cell (k * 2)).trans q1
      have c2 := (r0.cell (k * 2 + 1)).trans q2
      have HR := hid r0
      have hzr := hB.size
      have HB := hid hB
      have hk8 : (k : Int) < 8 := by omega
      have hlt0 : (k : Int) < (n : Int) := by omega
      obtain ⟨p, hp⟩ : ∃ p, p = chP ps k := ⟨_, rfl⟩
      obtain ⟨c, hcc⟩ : ∃ c, c = cntM (pa ps k) (pb ps k) := ⟨_, rfl⟩
      rw [← hp] at ha hn1 HS ⊢
      rw [← hcc] at hc hn1 HS HM
      have hn1a := hn1.1
      have hn1b := hn1.2
      have hca := hc.1
      have hcb := hc.2
      have haa := ha.1
      have hab := ha.2
      clear hp hcc hx hy q1 q2 r0 hB ha hc hn1
      go_wp2_with fail
      with_reducible refine (HM.out _).mono ?_
      rintro e w1 ⟨rfl, hC⟩
      clear c1 c2
      go_wp2_with fail
      go_roundw
      case rel => exact ⟨k + 1, by omega, by go_num, by rw [HS.out], HR.out.below hC HR.out.lt, HB.out.trans (hC.mono hzr)⟩
      case measure => simp [intOf]; omega
    · obtain rfl : n = k := by omega
      go_wp2_with fail
      go_ret
      exact ⟨rfl, hB⟩
set_option maxRecDepth 100000 in
set_option maxHeartbeats 1000000 in
theorem implChoicesOf_any (b n cap : Nat) (zs : List Int) (ps : List (Int × Int)) (w : World) (h : Stk w b zs) (hn : n = zs.length) (hps : Ph ps) :
    Calls Try.prog 29 #[.slice (some ⟨b, 0, none⟩) n cap, .agg (phL ps).toArray] w fun e w' => e = .returned (.tuple #[.int .i64 (chR zs ps).1, .int .i64 (chR zs ps).2]) ∧ Below w.heap.size w w' := by
  have r3 := Row.new w 31 (phL ps)
  have hB : Below w.heap.size w (w.alloc (.cells (phL ps).toArray 31)) := (Below.refl _ _).alloc (Nat.le_refl _) _
  have hS := h.below hB h.1
  have hi := Try.infoPhoto
  have HV := hid (implValidPhoto_any b n cap zs ps _ hS hn hps)
  have HR := hid r3
  have HB := hid hB
  cases hv : okPh zs ps with
  | false =>
    rw [hv] at HV
    rw [chR_no hv]
    clear h hn hS hv hps r3 hB
    go_enter Try.func29, Try.ntmps29
    go_wp2_with ((with_reducible refine wpList_load_row rfl 31 _ rfl w.heap.size ?_ 31 (phL ps).toArray (0, 0) _ ?_ Try.underlying31 ?_ ?_ ?_); rfl; exact HR.out; rfl; (rw [sz16]; exact hi))
    with_reducible refine HV.out.mono ?_
    rintro e w1 ⟨rfl, hC⟩
    go_wp2_with fail
    go_ret2
    exact ⟨rfl, HB.out.trans (hC.mono HB.out.size)⟩
  | true =>
    rw [hv] at HV
    rw [chR_yes hv, ← hn]
    have hn8 : n ≤ 8 := by have := (okL_in (okPh_ok' hv)).1; omega
    have HP := hid hps
    clear h hn hS hv hps r3 hB
    go_enter Try.func29, Try.ntmps29
    go_wp2_with ((with_reducible refine wpList_load_row rfl 31 _ rfl w.heap.size ?_ 31 (phL ps).toArray (0, 0) _ ?_ Try.underlying31 ?_ ?_ ?_); rfl; exact HR.out; rfl; (rw [sz16]; exact hi))
    with_reducible refine HV.out.mono ?_
    rintro e w1 ⟨rfl, hC⟩
    have HR1 := hid (HR.out.below hC HR.out.lt)
    have HB1 := hid (HB.out.trans (hC.mono HB.out.size))
    clear hC HR HB
    go_wp2_with ((with_reducible refine wpList_load_row rfl 31 _ rfl w.heap.size ?_ 31 (phL ps).toArray (0, 0) _ ?_ Try.underlying31 ?_ ?_ ?_); rfl; exact HR1.out; rfl; (rw [sz16]; exact hi))
    with_reducible refine (choices_any _ n cap ps w1 HP.out hn8).mono ?_
    rintro e w2 ⟨rfl, hC⟩
    go_wp2_with fail
    go_ret2
    exact ⟨rfl, HB1.out.trans (hC.mono HB1.out.size)⟩
set_option maxRecDepth 100000 in
set_option maxHeartbeats 1000000 in
theorem specChoicesOf_any (b n cap : Nat) (zs : List Int) (ps : List (Int × Int)) (w : World) (h : Stk w b zs) (hn : n = zs.length) (hps : Ph ps) :
    Calls Try.prog 28 #[.slice (some ⟨b, 0, none⟩) n cap, .agg (phL ps).toArray] w fun e w' => e = .returned (.tuple #[.int .i64 (chR zs ps).1, .int .i64 (chR zs ps).2]) ∧ Below w.heap.size w w' := by
  have r3 := Row.new w 31 (phL ps)
  have hB : Below w.heap.size w (w.alloc (.cells (phL ps).toArray 31)) := (Below.refl _ _).alloc (Nat.le_refl _) _
  have hS := h.below hB h.1
  have hi := Try.infoPhoto
  have HV := hid (specValidPhoto_any b n cap zs ps _ hS hn)
  have HR := hid r3
  have HB := hid hB
  cases hv : okPh zs ps with
  | false =>
    rw [hv] at HV
    rw [chR_no hv]
    clear h hn hS hv hps r3 hB
    go_enter Try.func28, Try.ntmps28
    go_wp2_with ((with_reducible refine wpList_load_row rfl 31 _ rfl w.heap.size ?_ 31 (phL ps).toArray (0, 0) _ ?_ Try.underlying31 ?_ ?_ ?_); rfl; exact HR.out; rfl; (rw [sz16]; exact hi))
    with_reducible refine HV.out.mono ?_
    rintro e w1 ⟨rfl, hC⟩
    go_wp2_with fail
    go_ret2
    exact ⟨rfl, HB.out.trans (hC.mono HB.out.size)⟩
  | true =>
    rw [hv] at HV
    rw [chR_yes hv, ← hn]
    have hn8 : n ≤ 8 := by have := (okL_in (okPh_ok' hv)).1; omega
    have HP := hid hps
    clear h hn hS hv hps r3 hB
    go_enter Try.func28, Try.ntmps28
    go_wp2_with ((with_reducible refine wpList_load_row rfl 31 _ rfl w.heap.size ?_ 31 (phL ps).toArray (0, 0) _ ?_ Try.underlying31 ?_ ?_ ?_); rfl; exact HR.out; rfl; (rw [sz16]; exact hi))
    with_reducible refine HV.out.mono ?_
    rintro e w1 ⟨rfl, hC⟩
    have HR1 := hid (HR.out.below hC HR.out.lt)
    have HB1 := hid (HB.out.trans (hC.mono HB.out.size))
    clear hC HR HB
    go_wp2_with fail
    with_reducible refine (l05Choices_any w.heap.size n ps w1 HR1.out HP.out hn8).mono ?_
    rintro e w2 ⟨rfl, hC⟩
    go_wp2_with fail
    go_ret2
    exact ⟨rfl, HB1.out.trans (hC.mono HB1.out.size)⟩
end Go.Proofs.Ytgfdfnlbkljgeaa
