/- Words of acts: signed numbers, their places, the model's reader of a line. -/
import Derived.Test.YtoenefhobjpfdaaGreatDoorRaM
import Derived.Test.YtoenefhobjpfdaaGreatDoorAcU
import Derived.Test.YtoenefhobjpfdaaGreatDoorNmL
import Derived.Test.YtoenefhobjpfdaaGreatDoorSpC
namespace Go.Proofs.YtoenefhobjpfdaaGreatDoor
open Go.RowKit Go.Shelf
set_option linter.unusedVariables false
set_option linter.unusedSimpArgs false
def SgG (y : List UInt8) (w : World) (e : Ending) (w' : World) : Prop := ∃ (n : Int) (ok : Bool), e = .returned (.tuple #[.int .i64 n, .bool ok]) ∧ (ok = true → numSg y = some n) ∧ (ok = false → numSg y = none) ∧ w' = w
set_option maxRecDepth 100000 in
set_option maxHeartbeats 2000000 in
theorem l01Signed_any (t : ByteArray) (ht : t.size ≤ 1048576) (w : World) : Calls Tryz.prog 16 #[.string t] w (SgG t.data.toList w) := by
  have HIX := hid (fun k hk => idx_str t k hk 9 rfl)
  have HEX := hid (fun b k => ext_data t b k)
  have hsz : t.size = t.data.toList.length := by rw [Array.length_toList]; rfl
  have hdt : t.toList = t.data.toList := Lib.toList_data t
  have HL := hid (fun (s : ByteArray) (hs : s.size ≤ 1048576) => l01Long_any s hs)
  have HLT := hid (l01Long_any t ht)
  obtain ⟨l, hl⟩ : ∃ l, t.data.toList = l := ⟨_, rfl⟩
  rw [hl] at HIX hsz hdt HLT HEX ⊢
  obtain ⟨n, hn⟩ : ∃ n, t.size = n := ⟨_, rfl⟩
  rw [hn] at ht hsz HIX
  have HN := hid hn
  clear hl
  cases l with
  | nil =>
    have he1 : t.toList.isEmpty = true := by rw [hdt]; rfl
    have he2 : t.toList = [] := hdt
    have he3 : (t.toList != []) = false := by rw [hdt]; rfl
    rw [numRD_no (by rfl)] at HLT
    clear hdt hsz hn
    go_enter Tryz.func16, Tryz.ntmps16
    go_wp2_with fail
    with_reducible refine (HLT.out w).mono ?_
    rintro e w1 ⟨rfl, hw⟩
    subst hw
    go_wp2_with fail
    go_ret2
    exact ⟨0, false, rfl, (fun h => by cases h), (fun _ => rfl), rfl⟩
  | cons c r =>
    have he1 : t.toList.isEmpty = false := by rw [hdt]; rfl
    have he2 : ¬ t.toList = [] := by rw [hdt]; simp
    have he3 : (t.toList != []) = true := by rw [hdt]; rfl
    obtain ⟨u0, hu0, hix0⟩ := HIX.out 0 (by rw [hsz]; simp)
    have hix0' : ∀ w, (Instr.index 9 (.string t) (.int .i64 0)).run Tryz.prog w = .ok (.int .u8 (u0.toNat : Int)) w := hix0
    have hc0 : u0 = c := by simpa using hu0.symm
    subst hc0
    obtain ⟨x0, hx0⟩ : ∃ x : Int, (u0.toNat : Int) = x := ⟨_, rfl⟩
    rw [hx0] at hix0'
    by_cases h45 : u0 = 45
    · have hx45 : x0 = 45 := by rw [← hx0, h45]; rfl
      have hn1 : 1 ≤ n := by rw [hsz]; simp
      have q1 : (1 : Int) ≤ (t.size : Int) := by omega
      have q2 : 1 ≤ t.size := by omega
      have q3 : ¬ (t.size < 1) := by omega
      have q4 : ¬ ((t.size : Int) < 1) := by omega
      obtain ⟨T, hT⟩ : ∃ T, t.extract 1 t.size = T := ⟨_, rfl⟩
      have hTd : T.data.toList = r := by
        rw [← hT, HEX.out 1 t.size]
        unfold piece
        rw [hn, hsz, List.take_length]
        rfl
      have HLR := hid (HL.out T (by
        have : T.data.toList.length = T.size := by rw [Array.length_toList]; rfl
        rw [hTd] at this
        simp at hsz
        omega))
      rw [hTd] at HLR
      cases hcan : canD r with
      | true =>
        rw [numRD_yes hcan] at HLR
        have hlt := canD_lt hcan
        obtain ⟨m, hm⟩ : ∃ m : Int, (numV r : Int) = m := ⟨_, rfl⟩
        rw [hm] at HLR
        have wn : IntKind.i64.wrap (-m) = -m := IntWalk.i64_in _ (by omega)
        obtain ⟨b, hb⟩ : ∃ b, decide (0 < m) = b := ⟨_, rfl⟩
        have H1 := hid (show b = true → numSg (u0 :: r) = some (-m) from fun h => by
          unfold numSg
          rw [← hb] at h
          simp only [decide_eq_true_eq] at h
          simp only
          rw [if_pos h45, if_pos ⟨hcan, by omega⟩, hm])
        have H2 := hid (show b = false → numSg (u0 :: r) = none from fun h => by
          unfold numSg
          rw [← hb] at h
          simp only [decide_eq_false_iff_not] at h
          simp only
          rw [if_pos h45, if_neg (fun c => h (by omega))])
        obtain ⟨M, hM⟩ : ∃ M, -m = M := ⟨_, rfl⟩
        rw [hM] at wn H1
        have HMM := hid hM
        clear hdt hsz hn hix0 hu0 hx0 hlt hTd hcan hm h45
        go_enter Tryz.func16, Tryz.ntmps16
        go_wp2_with fail
        with_reducible refine (HLR.out _).mono ?_
        rintro e w1 ⟨rfl, hw⟩
        subst hw
        go_wp2_with fail
        go_ret2
        exact ⟨M, b, by first | rfl | (congr 1; done) | simp_all, H1.out, H2.out, rfl⟩
      | false =>
        rw [numRD_no hcan] at HLR
        have H2 := hid (show numSg (u0 :: r) = none from by
          unfold numSg
          simp only
          rw [if_pos h45, if_neg (fun c => by rw [hcan] at c; cases c.1)])
        clear hdt hsz hn hix0 hu0 hx0 hTd hcan h45
        go_enter Tryz.func16, Tryz.ntmps16
        go_wp2_with fail
        with_reducible refine (HLR.out _).mono ?_
        rintro e w1 ⟨rfl, hw⟩
        subst hw
        go_wp2_with fail
        go_ret2
        exact ⟨0, false, rfl, (fun h => by cases h), (fun _ => H2.out), rfl⟩
    · have hx45 : ¬ x0 = 45 := fun e => h45 (UInt8.toNat_inj.1 (by show u0.toNat = 45; omega))
      have hx46 : (x0 == 45) = false := by simpa using hx45
      cases hcan : canD (u0 :: r) with
      | true =>
        rw [numRD_yes hcan] at HLT
        obtain ⟨m, hm⟩ : ∃ m : Int, (numV (u0 :: r) : Int) = m := ⟨_, rfl⟩
        rw [hm] at HLT
        have H1 := hid (show numSg (u0 :: r) = some m from by
          unfold numSg
          simp only
          rw [if_neg h45, if_pos hcan, hm])
        clear hdt hsz hn hix0 hu0 hx0 hcan hm h45
        go_enter Tryz.func16, Tryz.ntmps16
        go_wp2_with fail
        with_reducible refine (HLT.out _).mono ?_
        rintro e w1 ⟨rfl, hw⟩
        subst hw
        go_wp2_with fail
        go_ret2
        exact ⟨m, true, rfl, (fun _ => H1.out), (fun h => by cases h), rfl⟩
      | false =>
        rw [numRD_no hcan] at HLT
        have H2 := hid (show numSg (u0 :: r) = none from by
          unfold numSg
          simp only
          rw [if_neg h45, if_neg (by rw [hcan]; simp)])
        clear hdt hsz hn hix0 hu0 hx0 hcan h45
        go_enter Tryz.func16, Tryz.ntmps16
        go_wp2_with fail
        with_reducible refine (HLT.out _).mono ?_
        rintro e w1 ⟨rfl, hw⟩
        subst hw
        go_wp2_with fail
        go_ret2
        exact ⟨0, false, rfl, (fun h => by cases h), (fun _ => H2.out), rfl⟩
/-- the program's list of words -/
def wlist (k : Nat) : List UInt8 := if k = 0 then [] else wordA k
theorem wlist_at {w : World} {g k : Nat} (h : WordsAt w g) (hk : k < 6) : w.cell? ⟨g, k, none⟩ = some (.string ⟨(wlist k).toArray⟩) := by
  unfold WordsAt at h
  rw [h.cell k]
  match k, hk with
  | 0, _ => rfl
  | 1, _ => rfl
  | 2, _ => rfl
  | 3, _ => rfl
  | 4, _ => rfl
  | 5, _ => rfl
theorem idxW_at {x : List UInt8} {k : Nat} (hk : k < 6) (h : x = wlist k) : idxW x = k := by
  match k, hk with
  | 0, _ => subst h; rfl
  | 1, _ => subst h; decide
  | 2, _ => subst h; decide
  | 3, _ => subst h; decide
  | 4, _ => subst h; decide
  | 5, _ => subst h; decide
theorem idxW_no {x : List UInt8} (h : ∀ k, k < 6 → x ≠ wlist k) : idxW x = -1 := by
  unfold idxW
  rw [if_neg (show ¬ x = [] from h 0 (by omega))]
  rcases kindW_cases x with hk | ⟨h0, _⟩
  · exfalso
    have hx := kindW_out rfl hk
    unfold isK at hk
    rcases hk with e | e | e | e | e <;> rw [e] at hx
    · exact h 1 (by omega) hx
    · exact h 2 (by omega) hx
    · exact h 3 (by omega) hx
    · exact h 4 (by omega) hx
    · exact h 5 (by omega) hx
  · rw [if_pos h0]
theorem idxW_bd (x : List UInt8) : -1 ≤ idxW x ∧ idxW x ≤ 5 := by
  unfold idxW
  split
  · omega
  · split
    · omega
    · rcases kindW_cases x with hk | ⟨h0, _⟩
      · unfold isK at hk; omega
      · omega
theorem str_yes {x y : ByteArray} (h : x.data.toList = y.data.toList) : (x.toList == y.toList) = true := by
  rw [Lib.toList_data, Lib.toList_data, h]; simp
theorem str_no {x y : ByteArray} (h : ¬ x.data.toList = y.data.toList) : (x.toList == y.toList) = false := by
  rw [Lib.toList_data, Lib.toList_data]; simpa using h
set_option maxRecDepth 100000 in
set_option maxHeartbeats 2000000 in
theorem index_any (g : Nat) (x : ByteArray) (w : World) (h : WordsAt w g) : Calls Tryz.prog 20 #[.slice (some ⟨g, 0, none⟩) 6 6, .string x] w fun e w' => e = .returned (.int .i64 (idxW x.data.toList)) ∧ w' = w := by
  have HC := hid (fun k hk => wlist_at h (k := k) hk)
  have HI := hid (fun k (hk : k < 6) e => idxW_at (x := x.data.toList) hk e)
  have HNO := hid (fun h => idxW_no (x := x.data.toList) h)
  have HE1 := hid (fun k (h : x.data.toList = wlist k) => str_yes (x := x) (y := ⟨(wlist k).toArray⟩) h)
  have HE2 := hid (fun k (h : ¬ x.data.toList = wlist k) => str_no (x := x) (y := ⟨(wlist k).toArray⟩) h)
  obtain ⟨I, hI⟩ : ∃ I, idxW x.data.toList = I := ⟨_, rfl⟩
  rw [hI] at HI HNO ⊢
  obtain ⟨l, hl⟩ : ∃ l, x.data.toList = l := ⟨_, rfl⟩
  rw [hl] at HI HNO HE1 HE2
  clear hI hl h
  go_enter Tryz.func20, Tryz.ntmps20
  go_wp2_with fail
  go_loopw [8] (fun i wr => ∃ k : Nat, k ≤ 6 ∧ i = .int .i64 k ∧ (∀ j, j < k → l ≠ wlist j) ∧ wr = w) (fun i _ => 6 - (intOf i).toNat)
  case atStart => exact ⟨0, Nat.zero_le _, rfl, fun j hj => by omega, rfl⟩
  case round =>
    obtain ⟨k, hk, rfl, hno, rfl⟩ := hrel
    by_cases hk6 : k < 6
    · have k1 : (k : Int) < 6 := by omega
      have k0 : (0 : Int) ≤ (k : Int) := by omega
      have w1' : IntKind.i64.wrap ((k : Int) + 1) = (k : Int) + 1 := IntWalk.i64_in _ (by omega)
      have c0 := HC.out k hk6
      have HN := hid hno
      by_cases hq : l = wlist k
      · have he := HE1.out k hq
        have HR := hid (HI.out k hk6 hq)
        obtain ⟨Wk, hWk⟩ : ∃ W, (⟨(wlist k).toArray⟩ : ByteArray) = W := ⟨_, rfl⟩
        rw [hWk] at c0 he
        clear hno hq hWk
        go_wp2_with fail
        go_ret
        exact ⟨by rw [HR.out]; rfl, rfl⟩
      · have he := HE2.out k hq
        have he2 : ¬ x.toList = (⟨(wlist k).toArray⟩ : ByteArray).toList := by simpa using he
        have HNK := hid (show ∀ j, j < k + 1 → l ≠ wlist j from fun j hj => by
          by_cases e : j = k
          · subst e; exact hq
          · exact HN.out j (by omega))
        obtain ⟨Wk, hWk⟩ : ∃ W, (⟨(wlist k).toArray⟩ : ByteArray) = W := ⟨_, rfl⟩
        rw [hWk] at c0 he he2
        clear hno hq hWk
        go_wp2_with fail
        go_roundw
        case rel => exact ⟨k + 1, by omega, by go_num, HNK.out, by first | rfl | trivial⟩
        case measure => simp [intOf]; omega
    · obtain rfl : k = 6 := by omega
      have HR := hid (HNO.out hno)
      have kf : ¬ (((6 : Nat) : Int) < 6) := by omega
      clear hno
      go_wp2_with fail
      go_ret
      exact ⟨by rw [HR.out]; rfl, rfl⟩
theorem Tryz.infoActL : (Tryz.prog.info? 32).map (fun i => (i.zero, i.size, i.bytes)) = some (some (.agg #[.int .i8 0, .int .i64 0]), 2, 16) := by kernel_rfl
end Go.Proofs.YtoenefhobjpfdaaGreatDoor
