/- spec.l01Number: a number as it is written. -/
import Derived.Test.YtklkdbfdejabiaaGreatDoorSpA
namespace Go.Proofs.YtklkdbfdejabiaaGreatDoor
open Go.RowKit
set_option linter.unusedVariables false
set_option linter.unusedSimpArgs false
/-- the number and whether there is one -/
def numR (l : List UInt8) : Int × Bool := if canB l then ((numV l : Int), true) else (0, false)
theorem numR_no {l : List UInt8} (h : canB l = false) : numR l = (0, false) := by simp [numR, h]
theorem numR_yes {l : List UInt8} (h : canB l = true) : numR l = ((numV l : Int), true) := by simp [numR, h]
theorem numV_lt : ∀ (l : List UInt8), l.all digB = true → numV l < 10 ^ l.length := fun l => by
  refine snocInd (P := fun l => l.all digB = true → numV l < 10 ^ l.length) (fun _ => by simp [numV]) (fun l x ih => ?_) l
  intro hd
  simp only [List.all_append, Bool.and_eq_true] at hd
  have hx : digB x = true := by simpa using hd.2
  have := ih hd.1
  have h2 := (dig_byte hx).2
  rw [numV_snoc, List.length_append, List.length_singleton, Nat.pow_succ]
  omega
theorem take_snoc {l : List UInt8} {k : Nat} {u : UInt8} (h : l[k]? = some u) : l.take (k + 1) = l.take k ++ [u] := by
  have := piece_snoc (b := 0) (Nat.zero_le k) h
  simpa [piece] using this
theorem can_bad {l : List UInt8} {k : Nat} {u : UInt8} (h : l[k]? = some u) (hu : digB u = false) : canB l = false := by
  have : l.all digB = false := by
    rw [List.all_eq_false]
    exact ⟨u, List.mem_of_getElem? h, by simp [hu]⟩
  simp [canB, this]
set_option maxRecDepth 100000 in
set_option maxHeartbeats 2000000 in
theorem l01Number_any (t : ByteArray) (ht : t.size ≤ 1048576) (w : World) : Calls Tryz.prog 24 #[.string t] w fun e w' => e = .returned (.tuple #[.int .i64 (numR t.data.toList).1, .bool (numR t.data.toList).2]) ∧ w' = w := by
  have HIX := hid (fun k hk => idx_str t k hk 9 rfl)
  have hsz : t.size = t.data.toList.length := by rw [Array.length_toList]; rfl
  have hdt : t.toList = t.data.toList := Lib.toList_data t
  obtain ⟨l, hl⟩ : ∃ l, t.data.toList = l := ⟨_, rfl⟩
  rw [hl] at HIX hsz hdt ⊢
  obtain ⟨n, hn⟩ : ∃ n, t.size = n := ⟨_, rfl⟩
  rw [hn] at ht hsz HIX
  have HSZ := hid hsz; have HN := hid hn
  have HDT := hid hdt
  clear hl
  by_cases h0 : n = 0
  · have hnil : l = [] := List.length_eq_zero_iff.1 (by omega)
    have he1 : t.toList.isEmpty = true := by rw [hdt, hnil]; rfl
    have he2 : t.toList = [] := by rw [hdt, hnil]
    rw [numR_no (by rw [hnil]; rfl)]
    clear hdt hnil hsz hn
    go_enter Tryz.func24, Tryz.ntmps24
    go_wp2_with fail
    go_ret2
    exact ⟨rfl, rfl⟩
  have hne : l ≠ [] := fun e => h0 (by rw [hsz, e]; rfl)
  have he2 : ¬ t.toList = [] := by rw [hdt]; exact hne
  have he1 : t.toList.isEmpty = false := by rw [hdt]; cases l with | nil => exact absurd rfl hne | cons => rfl
  by_cases h9 : 9 < n
  · have h9' : (9 : Int) < (t.size : Int) := by omega
    rw [numR_no (by simp [canB]; omega)]
    clear hdt hsz
    go_enter Tryz.func24, Tryz.ntmps24
    go_wp2_with fail
    go_ret2
    exact ⟨rfl, rfl⟩
  have h9' : ¬ (9 : Int) < (n : Int) := by omega
  obtain ⟨u0, hu0, hix0⟩ := HIX.out 0 (by omega)
  have hix0' : ∀ w, (Instr.index 9 (.string t) (.int .i64 0)).run Tryz.prog w = .ok (.int .u8 (u0.toNat : Int)) w := hix0
  obtain ⟨x0, hx0⟩ : ∃ x : Int, (u0.toNat : Int) = x := ⟨_, rfl⟩
  rw [hx0] at hix0'
  by_cases hz : x0 = 48 ∧ 1 < n
  · have hx48 : x0 = 48 := hz.1
    have hn1 : (1 : Int) < (n : Int) := by omega
    have hu48 : u0 = 48 := UInt8.toNat_inj.1 (by have : (u0.toNat : Int) = 48 := by rw [hx0, hx48]
                                                 have h2 : u0.toNat = 48 := by omega
                                                 rw [h2]; rfl)
    rw [numR_no (by rw [hu48] at hu0; unfold canB; rw [hu0]; simp; omega)]
    clear hdt hsz hz hu0 hix0 hx0
    go_enter Tryz.func24, Tryz.ntmps24
    go_wp2_with fail
    go_ret2
    exact ⟨rfl, rfl⟩
  have HC1 := hid (show l.length = 1 ∨ l[0]? ≠ some 48 from by
    by_cases h1 : n = 1
    · exact .inl (by omega)
    · refine .inr (fun e => hz ⟨?_, by omega⟩)
      rw [hu0] at e
      injection e with e
      rw [← hx0, e]; rfl)
  have HNE := hid hne; have H9 := hid (show n ≤ 9 by omega)
  have hz0 : x0 = 48 → (n : Int) ≤ 1 := fun h => by
    by_cases c : 1 < n
    · exact absurd ⟨h, c⟩ hz
    · omega
  clear hz hu0 hix0 hx0 hdt hsz
  by_cases hx48 : x0 = 48
  · have hn1 : ¬ (1 : Int) < (n : Int) := by have := hz0 hx48; omega
    clear hz0
    go_enter Tryz.func24, Tryz.ntmps24
    go_wp2_with fail
    go_loopw [4, 5] (fun s4 i wr => ∃ (k : Nat) (N : Int), k ≤ n ∧ i = .int .i64 k ∧ .int .i64 N = s4 ∧ N = (numV (l.take k) : Int) ∧ (l.take k).all digB = true ∧ wr = w) (fun _ i _ => n - (intOf i).toNat)
    case atStart => exact ⟨0, 0, Nat.zero_le _, rfl, rfl, rfl, rfl, rfl⟩
    case round =>
      obtain ⟨k, N, hk, rfl, rfl, hNV, hD, rfl⟩ := hrel
      have hnl := numV_lt (l.take k) hD
      by_cases hkn : k < n
      · have k1 : (k : Int) < (n : Int) := by omega
        have k0 : (0 : Int) ≤ (k : Int) := by omega
        have w1' : IntKind.i64.wrap ((k : Int) + 1) = (k : Int) + 1 := IntWalk.i64_in _ (by omega)
        obtain ⟨u, hu, hix⟩ := HIX.out k hkn
        obtain ⟨x, hx⟩ : ∃ x : Int, (u.toNat : Int) = x := ⟨_, rfl⟩
        rw [hx] at hix
        by_cases hlo : x < 48
        · have HB := hid (numR_no (can_bad hu (by simp [digB]; omega)))
          clear hu hNV hD hnl hx
          go_wp2_with fail
          go_ret2
          exact ⟨by rw [HB.out]; rfl, rfl⟩
        · by_cases hhi : 57 < x
          · have HB := hid (numR_no (can_bad hu (by simp [digB]; omega)))
            clear hu hNV hD hnl hx
            go_wp2_with fail
            go_ret2
            exact ⟨by rw [HB.out]; rfl, rfl⟩
          · have hp : 10 ^ (l.take k).length ≤ 10 ^ 9 := Nat.pow_le_pow_right (by omega) (by have := H9.out; rw [List.length_take]; omega)
            have nb : 0 ≤ N ∧ N < 1000000000 := by omega
            have y1 : IntKind.i64.wrap (10 * N) = 10 * N := IntWalk.i64_in _ (by omega)
            have y2 : IntKind.u8.wrap (x - 48) = x - 48 := by simp only [IntKind.wrap, IntKind.signed, IntKind.bits]; simp; omega
            have y3 : IntKind.i64.wrap (x - 48) = x - 48 := IntWalk.i64_in _ (by omega)
            have y4 : IntKind.i64.wrap (10 * N + (x - 48)) = 10 * N + (x - 48) := IntWalk.i64_in _ (by omega)
            have HV := hid (show 10 * N + (x - 48) = (numV (l.take (k + 1)) : Int) by rw [take_snoc hu, numV_snoc, hNV]; omega)
            have HD2 := hid (show (l.take (k + 1)).all digB = true by
              rw [take_snoc hu, List.all_append, hD]
              simp [digB]; omega)
            clear hu hNV hD hnl hx hp nb
            go_wp2_with fail
            go_roundw
            case rel => exact ⟨k + 1, 10 * N + (x - 48), by omega, by go_num, rfl, HV.out, HD2.out, by first | rfl | trivial⟩
            case measure => simp [intOf]; omega
      · obtain rfl : k = n := by omega
        have HT := hid (show l.take k = l from List.take_of_length_le (by have := HSZ.out; omega))
        rw [HT.out] at hNV hD
        have HR := hid (numR_yes (l := l) (by
          unfold canB
          simp only [Bool.and_eq_true, Bool.or_eq_true, decide_eq_true_eq]
          have h1 := HSZ.out; have h2 := H9.out; have h3 := HC1.out
          exact ⟨⟨⟨by omega, by omega⟩, h3⟩, hD⟩))
        have HNV := hid hNV
        clear hNV hD hnl
        go_wp2_with fail
        go_ret2
        exact ⟨by rw [HR.out, ← HNV.out]; rfl, rfl⟩
  · clear hz0
    go_enter Tryz.func24, Tryz.ntmps24
    go_wp2_with fail
    go_loopw [4, 5] (fun s4 i wr => ∃ (k : Nat) (N : Int), k ≤ n ∧ i = .int .i64 k ∧ .int .i64 N = s4 ∧ N = (numV (l.take k) : Int) ∧ (l.take k).all digB = true ∧ wr = w) (fun _ i _ => n - (intOf i).toNat)
    case atStart => exact ⟨0, 0, Nat.zero_le _, rfl, rfl, rfl, rfl, rfl⟩
    case round =>
      obtain ⟨k, N, hk, rfl, rfl, hNV, hD, rfl⟩ := hrel
      have hnl := numV_lt (l.take k) hD
      by_cases hkn : k < n
      · have k1 : (k : Int) < (n : Int) := by omega
        have k0 : (0 : Int) ≤ (k : Int) := by omega
        have w1' : IntKind.i64.wrap ((k : Int) + 1) = (k : Int) + 1 := IntWalk.i64_in _ (by omega)
        obtain ⟨u, hu, hix⟩ := HIX.out k hkn
        obtain ⟨x, hx⟩ : ∃ x : Int, (u.toNat : Int) = x := ⟨_, rfl⟩
        rw [hx] at hix
        by_cases hlo : x < 48
        · have HB := hid (numR_no (can_bad hu (by simp [digB]; omega)))
          clear hu hNV hD hnl hx
          go_wp2_with fail
          go_ret2
          exact ⟨by rw [HB.out]; rfl, rfl⟩
        · by_cases hhi : 57 < x
          · have HB := hid (numR_no (can_bad hu (by simp [digB]; omega)))
            clear hu hNV hD hnl hx
            go_wp2_with fail
            go_ret2
            exact ⟨by rw [HB.out]; rfl, rfl⟩
          · have hp : 10 ^ (l.take k).length ≤ 10 ^ 9 := Nat.pow_le_pow_right (by omega) (by have := H9.out; rw [List.length_take]; omega)
            have nb : 0 ≤ N ∧ N < 1000000000 := by omega
            have y1 : IntKind.i64.wrap (10 * N) = 10 * N := IntWalk.i64_in _ (by omega)
            have y2 : IntKind.u8.wrap (x - 48) = x - 48 := by simp only [IntKind.wrap, IntKind.signed, IntKind.bits]; simp; omega
            have y3 : IntKind.i64.wrap (x - 48) = x - 48 := IntWalk.i64_in _ (by omega)
            have y4 : IntKind.i64.wrap (10 * N + (x - 48)) = 10 * N + (x - 48) := IntWalk.i64_in _ (by omega)
            have HV := hid (show 10 * N + (x - 48) = (numV (l.take (k + 1)) : Int) by rw [take_snoc hu, numV_snoc, hNV]; omega)
            have HD2 := hid (show (l.take (k + 1)).all digB = true by
              rw [take_snoc hu, List.all_append, hD]
              simp [digB]; omega)
            clear hu hNV hD hnl hx hp nb
            go_wp2_with fail
            go_roundw
            case rel => exact ⟨k + 1, 10 * N + (x - 48), by omega, by go_num, rfl, HV.out, HD2.out, by first | rfl | trivial⟩
            case measure => simp [intOf]; omega
      · obtain rfl : k = n := by omega
        have HT := hid (show l.take k = l from List.take_of_length_le (by have := HSZ.out; omega))
        rw [HT.out] at hNV hD
        have HR := hid (numR_yes (l := l) (by
          unfold canB
          simp only [Bool.and_eq_true, Bool.or_eq_true, decide_eq_true_eq]
          have h1 := HSZ.out; have h2 := H9.out; have h3 := HC1.out
          exact ⟨⟨⟨by omega, by omega⟩, h3⟩, hD⟩))
        have HNV := hid hNV
        clear hNV hD hnl
        go_wp2_with fail
        go_ret2
        exact ⟨by rw [HR.out, ← HNV.out]; rfl, rfl⟩
end Go.Proofs.YtklkdbfdejabiaaGreatDoor
