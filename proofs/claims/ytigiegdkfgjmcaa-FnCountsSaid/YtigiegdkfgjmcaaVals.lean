/- The value of digits: the model's sum from the last wheel down; ValueOf and LastOf. -/
import Derived.Test.YtigiegdkfgjmcaaSizes
import Derived.Test.YtigiegdkfgjmcaaLawsD
namespace Go.Proofs.Ytigiegdkfgjmcaa
open Go.RowKit

/-- what the model has reckoned when the wheels from k on are done -/
def horn (zs ds : List Int) (n k : Nat) (h : Int) : Prop := 0 ≤ h ∧ valL zs ds n = h * szL (zs.take k) + valL zs ds k
theorem horn_bd {zs ds : List Int} {n k : Nat} {h : Int} (H : horn zs ds n k h) (hk : k ≤ n) (hn : n ≤ zs.length) (h8 : zs.length ≤ 8) (hi : inB zs n) (hl : ltTo zs ds n) : h ≤ 10000000000000000 := by
  have a := (szL_bd zs k (by omega) (fun j hj => hi j (by omega))).1
  have b := (valL_bd zs ds k (by omega) (fun j hj => hi j (by omega)) (fun j hj => hl j (by omega))).1
  have c := (valL_bd zs ds n hn hi hl).2
  have d := szL_bd zs n hn hi
  have e := pow_bd n (by omega)
  have f : h * 1 ≤ h * szL (zs.take k) := Int.mul_le_mul_of_nonneg_left a H.1
  have g := H.2
  omega
theorem horn_step {zs ds : List Int} {n k : Nat} {h : Int} (H : horn zs ds n (k + 1) h) (hk : k + 1 ≤ n) (hn : n ≤ zs.length) (hi : inB zs n) (hl : ltTo zs ds n) :
    horn zs ds n k (h * zs[k]?.getD 0 + ds[k]?.getD 0) := by
  have hz := hi k (by omega)
  have hd := hl k (by omega)
  refine ⟨by have := Int.mul_nonneg H.1 (show 0 ≤ zs[k]?.getD 0 by omega); omega, ?_⟩
  rw [H.2, szL_take zs k (by omega)]
  show _ = _
  simp only [valL]
  rw [Int.add_mul, Int.mul_assoc, Int.mul_comm (szL (zs.take k)) (zs[k]?.getD 0)]
  omega
theorem horn_end {zs ds : List Int} {n : Nat} {h : Int} (H : horn zs ds n 0 h) : h = valL zs ds n := by
  have := H.2
  simp [szL, valL] at this
  omega

set_option maxHeartbeats 4000000 in
theorem l01Value_any (b n cap : Nat) (zs : List Int) (d0 d1 d2 d3 d4 d5 d6 d7 : Int) (w : World) (h : Stk w b zs) (hn : n ≤ zs.length) (h8 : zs.length ≤ 8) (hi : inB zs n) (ho : Oct d0 d1 d2 d3 d4 d5 d6 d7)
    (hl : ltTo zs [d0, d1, d2, d3, d4, d5, d6, d7] n) :
    Calls Try.prog 40 #[.slice (some ⟨b, 0, none⟩) n cap, .agg #[.int .u8 d0, .int .u8 d1, .int .u8 d2, .int .u8 d3, .int .u8 d4, .int .u8 d5, .int .u8 d6, .int .u8 d7]] w
      fun e w' => e = .returned (.int .i64 (valL zs [d0, d1, d2, d3, d4, d5, d6, d7] n)) ∧ Below w.heap.size w w' := by
  have hO := hid (fun k hk => oct_bd ho k hk)
  have hB0 := fun (o : Obj) => (Below.refl w.heap.size w).alloc (Nat.le_refl _) o
  have hC := hid (fun (o : Obj) => (h.below (hB0 o) h.1).2.1)
  have hB := hid hB0
  have hR := hid ((Row.new w 28 [.int .u8 d0, .int .u8 d1, .int .u8 d2, .int .u8 d3, .int .u8 d4, .int .u8 d5, .int .u8 d6, .int .u8 d7]).cell)
  have HI := hid hi
  have HL := hid hl
  have n8 : n ≤ 8 := by omega
  have HN := hid hn
  have H8 := hid h8
  clear h ho hB0 hi hl hn h8
  go_enter Try.func40, Try.ntmps40
  go_wp2
  go_loopw [5, 6] (fun s i wr => ∃ (k : Nat) (q : Int), k ≤ n ∧ i = .int .i64 ((k : Int) - 1) ∧ s = .int .i64 q ∧ horn zs [d0, d1, d2, d3, d4, d5, d6, d7] n k q ∧ ∃ t, wr = (w.alloc (.cells #[.int .u8 d0, .int .u8 d1, .int .u8 d2, .int .u8 d3, .int .u8 d4, .int .u8 d5, .int .u8 d6, .int .u8 d7] 28)).drewN t) (fun _ i _ => (intOf i + 1).toNat)
  case atStart => exact ⟨n, 0, Nat.le_refl _, rfl, rfl, ⟨Int.le_refl _, by omega⟩, 0, rfl⟩
  case round =>
    obtain ⟨k, q, hk, rfl, rfl, hH, t, rfl⟩ := hrel
    by_cases hlt : 0 < k
    · obtain ⟨k, rfl⟩ : ∃ j, k = j + 1 := ⟨k - 1, by omega⟩
      have hc := hR.out k
      rw [show ([Value.int .u8 d0, .int .u8 d1, .int .u8 d2, .int .u8 d3, .int .u8 d4, .int .u8 d5, .int .u8 d6, .int .u8 d7] : List Value)[k]? = some (.int .u8 (([d0, d1, d2, d3, d4, d5, d6, d7] : List Int)[k]?.getD 0)) from oct_get d0 d1 d2 d3 d4 d5 d6 d7 k (by omega)] at hc
      have hdb := hO.out k (by omega)
      have hx := hC.out (.cells #[.int .u8 d0, .int .u8 d1, .int .u8 d2, .int .u8 d3, .int .u8 d4, .int .u8 d5, .int .u8 d6, .int .u8 d7] 28) k (by have := HN.out; omega)
      have hzb := HI.out k (by omega)
      have hS := hid (horn_step hH hk HN.out HI.out HL.out)
      have hbd := horn_bd hS.out (by omega) HN.out H8.out HI.out HL.out
      have hq0 := hH.1
      have hqb := horn_bd hH hk HN.out H8.out HI.out HL.out
      clear hH
      obtain ⟨d, hd⟩ : ∃ d, d = ([d0, d1, d2, d3, d4, d5, d6, d7] : List Int)[k]?.getD 0 := ⟨_, rfl⟩
      obtain ⟨z, hz⟩ : ∃ z, z = zs[k]?.getD 0 := ⟨_, rfl⟩
      rw [← hd] at hc hdb hS hbd
      rw [← hz] at hx hzb hS hbd
      clear hd hz
      have q1 : 0 ≤ q * z := Int.mul_nonneg hq0 (by omega)
      have e0 : (((k + 1 : Nat) : Int) - 1) = (k : Int) := by omega
      have w1 : IntKind.i64.wrap z = z := IntWalk.i64_in z (by omega)
      have w2 : IntKind.i64.wrap d = d := IntWalk.i64_in d (by omega)
      have w3 : IntKind.i64.wrap (q * z) = q * z := IntWalk.i64_in _ (by omega)
      have w4 : IntKind.i64.wrap (q * z + d) = q * z + d := IntWalk.i64_in _ (by omega)
      have k0 : (0 : Int) ≤ (k : Int) := by omega
      have kn : (k : Int) < (n : Int) := by omega
      rw [e0]
      go_wp2
      go_quiet (fail)
      clear w1 w2 w3 w4
      go_wp2
      all_goals go_roundw
      case rel => exact ⟨k, q * z + d, by omega, by go_num, rfl, hS.out, _, rfl⟩
      case measure => simp [intOf]
    · obtain rfl : k = 0 := by omega
      have hE := hid (horn_end hH)
      clear hH
      go_wp2
      go_ret
      exact ⟨by rw [← hE.out]; rfl, below_drewN (hB.out _) t⟩

theorem Stk.take {w : World} {b : Nat} {zs : List Int} (h : Stk w b zs) (k : Nat) (hk : k ≤ zs.length) : Stk w b (zs.take k) :=
  ⟨h.1, fun j hj => by
    have hj' : j < k := by simpa using (Nat.lt_min.1 (by simpa using hj)).1
    rw [h.2.1 j (by omega)]; simp [hj'], fun z hz => h.2.2.1 z (List.mem_of_mem_take hz), by simp; have := h.2.2.2; omega⟩
theorem take_take' (zs : List Int) (j k : Nat) (h : j ≤ k) : (zs.take k).take j = zs.take j := by rw [List.take_take, Nat.min_eq_left h]
theorem valL_take (zs ds : List Int) (k : Nat) : ∀ j, j ≤ k → valL (zs.take k) ds j = valL zs ds j
  | 0, _ => rfl
  | j + 1, h => by
    simp only [valL]
    rw [valL_take zs ds k j (by omega), take_take' zs j k (by omega)]
theorem inB_take {zs : List Int} {n k : Nat} (h : inB zs n) (hk : k ≤ n) : inB (zs.take k) k := fun j hj => by
  have := h j (by omega)
  simpa [hj] using this
theorem ltTo_take {zs ds : List Int} {n k : Nat} (h : ltTo zs ds n) (hk : k ≤ n) : ltTo (zs.take k) ds k := fun j hj => by
  have := h j (by omega)
  simpa [hj] using this

/-- impl.value over the first k wheels of a valid stack -/
theorem value_any (b k cap : Nat) (zs : List Int) (d0 d1 d2 d3 d4 d5 d6 d7 : Int) (ho : Oct d0 d1 d2 d3 d4 d5 d6 d7) (hv : okV zs [d0, d1, d2, d3, d4, d5, d6, d7] = true) (hk : k ≤ zs.length) (w : World) (hS : Stk w b zs) :
    Calls Try.prog 31 #[.slice (some ⟨b, 0, none⟩) k cap, .agg #[.int .u8 d0, .int .u8 d1, .int .u8 d2, .int .u8 d3, .int .u8 d4, .int .u8 d5, .int .u8 d6, .int .u8 d7]] w fun e W' => e = .returned (.int .i64 (valL zs [d0, d1, d2, d3, d4, d5, d6, d7] k)) ∧ Below w.heap.size w W' := by
  obtain ⟨hv1, hv2⟩ := okV_out hv
  obtain ⟨_, h8, hin, _, _⟩ := okL_out hv1
  have hlt := okD_lt hv2 h8 (fun j hj => (oct_bd ho j hj).1)
  have hlen : k = (zs.take k).length := by simp; omega
  have h := callsIn_wide.1 (value_in Fence.wide 8 trivial trivial trivial rfl (by omega) b k cap (zs.take k) hlen (by omega) (inB_take hin hk) d0 d1 d2 d3 d4 d5 d6 d7 ho w (hS.take k hk))
  rw [vfold_all (zs.take k) [d0, d1, d2, d3, d4, d5, d6, d7] (by omega) (by omega) (inB_take hin hk) (ltTo_take hlt hk), valL_take zs [d0, d1, d2, d3, d4, d5, d6, d7] k k (Nat.le_refl _)] at h
  exact h
theorem l01Value_ok (b k cap : Nat) (zs : List Int) (d0 d1 d2 d3 d4 d5 d6 d7 : Int) (ho : Oct d0 d1 d2 d3 d4 d5 d6 d7) (hv : okV zs [d0, d1, d2, d3, d4, d5, d6, d7] = true) (hk : k ≤ zs.length) (w : World) (hS : Stk w b zs) :
    Calls Try.prog 40 #[.slice (some ⟨b, 0, none⟩) k cap, .agg #[.int .u8 d0, .int .u8 d1, .int .u8 d2, .int .u8 d3, .int .u8 d4, .int .u8 d5, .int .u8 d6, .int .u8 d7]] w fun e W' => e = .returned (.int .i64 (valL zs [d0, d1, d2, d3, d4, d5, d6, d7] k)) ∧ Below w.heap.size w W' := by
  obtain ⟨hv1, hv2⟩ := okV_out hv
  obtain ⟨_, h8, hin, _, _⟩ := okL_out hv1
  have hlt := okD_lt hv2 h8 (fun j hj => (oct_bd ho j hj).1)
  exact l01Value_any b k cap zs d0 d1 d2 d3 d4 d5 d6 d7 w hS hk h8 (fun j hj => hin j (by omega)) ho (fun j hj => hlt j (by omega))

def valueR (zs ds : List Int) : Int × Int := if okV zs ds then (valL zs ds zs.length, 0) else (0, 1)
theorem valueR_no {zs ds : List Int} (h : okV zs ds = false) : valueR zs ds = (0, 1) := by simp [valueR, h]
theorem valueR_yes {zs ds : List Int} (h : okV zs ds = true) : valueR zs ds = (valL zs ds zs.length, 0) := by simp [valueR, h]
def lastR (zs ds : List Int) (k : Int) : Int × Int := if okV zs ds then (if 0 ≤ k ∧ k ≤ zs.length then (valL zs ds k.toNat, 0) else (0, 2)) else (0, 1)
theorem lastR_no {zs ds : List Int} (k : Int) (h : okV zs ds = false) : lastR zs ds k = (0, 1) := by simp [lastR, h]
theorem lastR_out {zs ds : List Int} (k : Int) (h : okV zs ds = true) (hk : ¬ (0 ≤ k ∧ k ≤ zs.length)) : lastR zs ds k = (0, 2) := by simp only [lastR, h, if_true, if_neg hk]
theorem lastR_yes {zs ds : List Int} (k : Nat) (h : okV zs ds = true) (hk : k ≤ zs.length) : lastR zs ds (k : Int) = (valL zs ds k, 0) := by
  simp only [lastR, h, if_true]
  rw [if_pos (by omega), Int.toNat_natCast]

set_option maxHeartbeats 1000000 in
theorem specValueOf_any (b n cap : Nat) (zs : List Int) (d0 d1 d2 d3 d4 d5 d6 d7 : Int) (w : World) (h : Stk w b zs) (hn : n = zs.length) (_ : n ≤ cap) (ho : Oct d0 d1 d2 d3 d4 d5 d6 d7) :
    Calls Try.prog 17 #[.slice (some ⟨b, 0, none⟩) n cap, .agg #[.int .u8 d0, .int .u8 d1, .int .u8 d2, .int .u8 d3, .int .u8 d4, .int .u8 d5, .int .u8 d6, .int .u8 d7]] w fun e w' => e = .returned (.tuple #[.int .i64 (valueR zs [d0, d1, d2, d3, d4, d5, d6, d7]).1, .int .i64 (valueR zs [d0, d1, d2, d3, d4, d5, d6, d7]).2]) ∧ Below w.heap.size w w' := by
  have N := hid hn; have HO := hid ho
  have hB0 : Below w.heap.size w (w.alloc (.cells #[.int .u8 d0, .int .u8 d1, .int .u8 d2, .int .u8 d3, .int .u8 d4, .int .u8 d5, .int .u8 d6, .int .u8 d7] 28)) := (Below.refl w.heap.size w).alloc (Nat.le_refl _) _
  have H1 := hid (h.below hB0 h.1)
  have oc := Oc.new w 28 d0 d1 d2 d3 d4 d5 d6 d7
  clear h hn ho
  cases hv : okV zs [d0, d1, d2, d3, d4, d5, d6, d7] with
  | false =>
    rw [valueR_no hv]
    have V := hid hv
    clear hv
    go_enter Try.func17, Try.ntmps17
    go_wp2_with fail
    have hX := specValidDigits_any _ n cap zs d0 d1 d2 d3 d4 d5 d6 d7 _ H1.out N.out HO.out
    rw [V.out] at hX
    refine hX.mono ?_
    clear hX
    rintro e w1 ⟨rfl, hB1⟩
    go_wp2_with fail
    go_ret2
    exact ⟨rfl, hB0.trans (hB1.mono (by simp))⟩
  | true =>
    rw [valueR_yes hv]
    have V := hid hv
    clear hv
    go_enter Try.func17, Try.ntmps17
    go_wp2_with fail
    have hX := specValidDigits_any _ n cap zs d0 d1 d2 d3 d4 d5 d6 d7 _ H1.out N.out HO.out
    rw [V.out] at hX
    refine hX.mono ?_
    clear hX
    rintro e w1 ⟨rfl, hB1⟩
    have hz1 := hB1.size
    simp only [World.size_alloc] at hB1 hz1
    obtain ⟨f0, f1, f2, f3, f4, f5, f6, f7⟩ := oc.below hB1 (by omega)
    have H2 := hid (H1.out.below hB1 (by have := H1.out.1; simp only [World.size_alloc] at this; exact this))
    go_wp2_with fail
    have hX := l01Value_ok _ n cap zs d0 d1 d2 d3 d4 d5 d6 d7 HO.out V.out (Nat.le_of_eq N.out) _ H2.out
    rw [show valL zs [d0, d1, d2, d3, d4, d5, d6, d7] n = valL zs [d0, d1, d2, d3, d4, d5, d6, d7] zs.length from by rw [← N.out]] at hX
    refine hX.mono ?_
    clear hX f0 f1 f2 f3 f4 f5 f6 f7
    rintro e w2 ⟨rfl, hB2⟩
    go_wp2_with fail
    go_ret2
    exact ⟨rfl, hB0.trans ((hB1.mono (by omega)).trans (hB2.mono (by omega)))⟩
end Go.Proofs.Ytigiegdkfgjmcaa
