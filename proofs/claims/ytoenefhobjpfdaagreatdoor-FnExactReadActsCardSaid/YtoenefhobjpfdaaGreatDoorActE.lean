/- Acts: what they are refused for, and what a valid one does. -/
import Derived.Test.YtoenefhobjpfdaaGreatDoorActs
import Derived.Laws.EntriesVeiled
namespace Go.Proofs.YtoenefhobjpfdaaGreatDoor
open Go.RowKit
set_option linter.unusedVariables false
set_option linter.unusedSimpArgs false
theorem okAct_kind {k n : Int} (h : okAct k n = true) : k = 1 ∨ k = 2 ∨ k = 3 ∨ k = 4 ∨ k = 5 := by
  by_cases h1 : k = 1
  · omega
  by_cases h2 : k = 2
  · omega
  by_cases h3 : k = 3
  · omega
  by_cases h4 : k = 4
  · omega
  by_cases h5 : k = 5
  · omega
  rw [okAct_none h1 h2 h3 h4 h5] at h
  cases h
theorem okAct_bd {k n : Int} (h : okAct k n = true) : -1 ≤ n ∧ n ≤ 1000000000000 ∧ (k ≠ 3 → 0 ≤ n) ∧ (4 ≤ k → n = 0) := by
  rcases okAct_kind h with rfl | rfl | rfl | rfl | rfl
  · rw [okAct_count (by omega)] at h; simp at h; omega
  · rw [okAct_count (by omega)] at h; simp at h; omega
  · rw [okAct_preset] at h; simp at h; omega
  · rw [okAct_plain (by omega)] at h; simp at h; omega
  · rw [okAct_plain (by omega)] at h; simp at h; omega
def okATo (js : List (Int × Int)) (k : Nat) : Prop := ∀ j, j < k → okAct (ak js j) (an js j) = true
def okAs (js : List (Int × Int)) : Bool := (List.range js.length).all fun j => okAct (ak js j) (an js j)
theorem okAs_out {js : List (Int × Int)} (h : okAs js = true) : okATo js js.length := fun j hj => by
  simp only [okAs, List.all_eq_true, List.mem_range] at h
  exact h j hj
theorem okAs_of {js : List (Int × Int)} (h : okATo js js.length) : okAs js = true := by
  simp only [okAs, List.all_eq_true, List.mem_range]
  exact fun j hj => h j hj
theorem okAs_bad {js : List (Int × Int)} (k : Nat) (hk : k < js.length) (h : okAct (ak js k) (an js k) = false) : okAs js = false := by
  cases e : okAs js with
  | false => rfl
  | true => have := okAs_out e k hk; rw [h] at this; cases this
theorem okATo_zero (js : List (Int × Int)) : okATo js 0 := fun j hj => by omega
theorem okATo_succ {js : List (Int × Int)} {k : Nat} (h : okATo js k) (e : okAct (ak js k) (an js k) = true) : okATo js (k + 1) := fun j hj => by
  by_cases he : j = k
  · subst he; exact e
  · exact h j (by omega)
theorem isBad_any (k n : Int) (w : World) : Calls Tryz.prog 34 #[.agg #[.int .i8 k, .int .i64 n]] w (GivesB w (.bool (!okAct k n))) := by
  have bB : Below w.heap.size w (w.alloc (.cells #[.int .i8 k, .int .i64 n] 32)) := (Below.refl _ _).alloc (Nat.le_refl _) _
  have HV := hid (implValidAct_any k n (w.alloc (.cells #[.int .i8 k, .int .i64 n] 32)))
  obtain ⟨x, hx⟩ : ∃ x, okAct k n = x := ⟨_, rfl⟩
  rw [hx] at HV ⊢
  have BB := hid bB
  clear hx bB
  go_enter Tryz.func34, Tryz.ntmps34
  go_wp2_with (go_at_call 35; refine HV.out.mono ?_; rintro e w1 ⟨rfl, hB1⟩)
  go_ret
  exact ⟨rfl, BB.out.trans (hB1.mono BB.out.size)⟩
set_option maxRecDepth 100000 in
set_option maxHeartbeats 4000000 in
theorem indexAct_any (b n cap : Nat) (js : List (Int × Int)) (w : World) (hA : Ast w b js) (hn : n = js.length) :
    Calls Tryz.prog 48 #[.slice (some ⟨b, 0, none⟩) n cap, .func (Fn.func 34) #[] #[]] w fun e w' => (∃ x : Int, e = .returned (.int .i64 x) ∧ ((okAs js = true ∧ x = -1) ∨ (okAs js = false ∧ 0 ≤ x ∧ x ≤ 1048576))) ∧ Below w.heap.size w w' := by
  have hl := hA.2.2
  rw [← hn] at hl
  have HA := hid hA; have HN := hid hn
  clear hA hn
  go_enter Tryz.func48, Tryz.ntmps48
  go_wp2_with fail
  go_loopw [8] (fun i wr => ∃ k : Nat, k ≤ n ∧ i = .int .i64 k ∧ okATo js k ∧ Below w.heap.size w wr) (fun i _ => n - (intOf i).toNat)
  case atStart => exact ⟨0, Nat.zero_le _, rfl, okATo_zero js, Below.refl _ _⟩
  case round =>
    obtain ⟨k, hk, rfl, hto, hB⟩ := hrel
    have hzr := hB.size
    by_cases hkn : k < n
    · have hkl : k < js.length := by have := HN.out; omega
      obtain ⟨x0, x1⟩ := (HA.out.below hB HA.out.1).2.1 k hkl
      have HTO := hid hto
      have HBD := hid (fun h => okAs_bad (js := js) k hkl h)
      have HST := hid (fun h => okATo_succ (js := js) (k := k) HTO.out h)
      have HF := hid (isBad_any (ak js k) (an js k) wr)
      obtain ⟨r, hr⟩ : ∃ r, okAct (ak js k) (an js k) = r := ⟨_, rfl⟩
      rw [hr] at HF HBD HST
      obtain ⟨p, hp⟩ : ∃ y, ak js k = y := ⟨_, rfl⟩
      obtain ⟨q, hq⟩ : ∃ y, an js k = y := ⟨_, rfl⟩
      rw [hp] at x0 HF
      rw [hq] at x1 HF
      have k0 : (0 : Int) ≤ (k : Int) := by omega
      have k1 : (k : Int) < (n : Int) := by omega
      have w1' : IntKind.i64.wrap ((k : Int) + 1) = (k : Int) + 1 := IntWalk.i64_in _ (by omega)
      have HB := hid hB
      clear hr hp hq hto hB
      cases r
      · go_wp2_with fail
        refine HF.out.mono ?_
        rintro e w1 ⟨rfl, hB1⟩
        go_wp2_with fail
        go_ret
        exact ⟨⟨_, rfl, .inr ⟨HBD.out (by simp), by omega, by omega⟩⟩, HB.out.trans (hB1.mono hzr)⟩
      · go_wp2_with fail
        refine HF.out.mono ?_
        rintro e w1 ⟨rfl, hB1⟩
        have HB1 := hid (HB.out.trans (hB1.mono hzr))
        clear hB1
        go_wp2_with fail
        go_roundw
        case rel => exact ⟨k + 1, by omega, by go_num, HST.out (by simp), HB1.out⟩
        case measure => simp [intOf]; omega
    · obtain rfl : k = n := by omega
      have k1 : ¬ (k : Int) < (k : Int) := by omega
      have HO := hid (okAs_of (js := js) (by rw [← HN.out]; exact hto))
      clear hto
      go_wp2_with fail
      go_ret
      exact ⟨⟨_, rfl, .inl ⟨HO.out, rfl⟩⟩, hB⟩
set_option maxRecDepth 100000 in
set_option maxHeartbeats 4000000 in
theorem containsAct_any (b n cap : Nat) (js : List (Int × Int)) (w : World) (hA : Ast w b js) (hn : n = js.length) :
    Calls Tryz.prog 33 #[.slice (some ⟨b, 0, none⟩) n cap, .func (Fn.func 34) #[] #[]] w (GivesB w (.bool (!okAs js))) := by
  have HI := hid (indexAct_any b n cap js w hA hn)
  clear hA hn
  go_enter Tryz.func33, Tryz.ntmps33
  go_wp2_with fail
  refine HI.out.mono ?_
  rintro e w1 ⟨⟨x, rfl, hx⟩, hB1⟩
  rcases hx with ⟨h1, rfl⟩ | ⟨h1, h2, h3⟩
  · go_wp2_with fail
    go_ret
    exact ⟨by rw [h1]; rfl, hB1⟩
  · go_wp2_with fail
    go_ret
    exact ⟨by rw [h1]; rfl, hB1⟩
/-- acts that are not refused -/
theorem actsErr_ok (b n cap : Nat) (js : List (Int × Int)) (w : World) (hA : Ast w b js) (hn : n = js.length) (hv : okAs js = true) (h60 : n ≤ 60) :
    Calls Tryz.prog 23 #[.slice (some ⟨b, 0, none⟩) n cap] w (GivesB w .nilIface) := by
  have HC := hid (containsAct_any b n cap js w hA hn)
  rw [hv] at HC
  have hg : (n : Int) ≤ 60 := by omega
  clear hA hn hv
  go_enter Tryz.func23, Tryz.ntmps23
  go_wp2_with fail
  refine HC.out.mono ?_
  rintro e w1 ⟨rfl, hB1⟩
  go_wp2_with fail
  go_ret
  exact ⟨rfl, hB1⟩
theorem actsErr_bad (b n cap : Nat) (js : List (Int × Int)) (w : World) (hA : Ast w b js) (hn : n = js.length) (hv : okAs js = false) (E0 : Value) (hE : w.cell? ⟨0, 0, none⟩ = some E0) (hlt : 0 < w.heap.size) :
    Calls Tryz.prog 23 #[.slice (some ⟨b, 0, none⟩) n cap] w (GivesB w E0) := by
  have HC := hid (containsAct_any b n cap js w hA hn)
  rw [hv] at HC
  have HE := hid hE
  clear hA hn hv hE
  go_enter Tryz.func23, Tryz.ntmps23
  go_wp2_with fail
  refine HC.out.mono ?_
  rintro e w1 ⟨rfl, hB1⟩
  have c := (hB1.cell (p := ⟨0, 0, none⟩) hlt).trans HE.out
  go_wp2_with fail
  go_ret
  exact ⟨rfl, hB1⟩
theorem actsErr_long (b n cap : Nat) (js : List (Int × Int)) (w : World) (hA : Ast w b js) (hn : n = js.length) (hv : okAs js = true) (h60 : 60 < n) (E1 : Value) (hE : w.cell? ⟨1, 0, none⟩ = some E1) (hlt : 1 < w.heap.size) :
    Calls Tryz.prog 23 #[.slice (some ⟨b, 0, none⟩) n cap] w (GivesB w E1) := by
  have HC := hid (containsAct_any b n cap js w hA hn)
  rw [hv] at HC
  have HE := hid hE
  have hg : (60 : Int) < (n : Int) := by omega
  clear hA hn hv hE
  go_enter Tryz.func23, Tryz.ntmps23
  go_wp2_with fail
  refine HC.out.mono ?_
  rintro e w1 ⟨rfl, hB1⟩
  have c := (hB1.cell (p := ⟨1, 0, none⟩) hlt).trans HE.out
  go_wp2_with fail
  go_ret
  exact ⟨rfl, hB1⟩
/-- what a valid act does, as a value -/
def deedV (k n : Int) : Value := if k = 1 then .iface 67 (.agg #[.int .i64 n, .int .i64 1]) else if k = 2 then .iface 67 (.agg #[.int .i64 n, .int .i64 (-1)]) else if k = 3 then .iface 68 (.int .i64 n) else if k = 4 then .iface 99 (.agg #[]) else .iface 100 (.agg #[])
theorem act_onward (k n : Int) (w : World) : Calls Tryz.prog 51 #[.agg #[.int .i8 k, .int .i64 n]] w (GivesB w (.iface 67 (.agg #[.int .i64 n, .int .i64 1]))) := by
  go_enter Tryz.func51, Tryz.ntmps51
  go_wp2_with fail
  go_ret
  exact ⟨rfl, (Below.refl _ _).alloc (Nat.le_refl _) _⟩
theorem act_backward (k n : Int) (w : World) : Calls Tryz.prog 52 #[.agg #[.int .i8 k, .int .i64 n]] w (GivesB w (.iface 67 (.agg #[.int .i64 n, .int .i64 (-1)]))) := by
  go_enter Tryz.func52, Tryz.ntmps52
  go_wp2_with fail
  go_ret
  exact ⟨rfl, (Below.refl _ _).alloc (Nat.le_refl _) _⟩
theorem act_preset (k n : Int) (w : World) : Calls Tryz.prog 53 #[.agg #[.int .i8 k, .int .i64 n]] w (GivesB w (.iface 68 (.int .i64 n))) := by
  go_enter Tryz.func53, Tryz.ntmps53
  go_wp2_with fail
  go_ret
  exact ⟨rfl, (Below.refl _ _).alloc (Nat.le_refl _) _⟩
theorem act_reset (k n : Int) (w : World) : Calls Tryz.prog 54 #[.agg #[.int .i8 k, .int .i64 n]] w (GivesB w (.iface 99 (.agg #[]))) := by
  go_enter Tryz.func54, Tryz.ntmps54
  go_wp2_with fail
  go_ret
  exact ⟨rfl, (Below.refl _ _).alloc (Nat.le_refl _) _⟩
theorem act_ticket (k n : Int) (w : World) : Calls Tryz.prog 55 #[.agg #[.int .i8 k, .int .i64 n]] w (GivesB w (.iface 100 (.agg #[]))) := by
  go_enter Tryz.func55, Tryz.ntmps55
  go_wp2_with fail
  go_ret
  exact ⟨rfl, (Below.refl _ _).alloc (Nat.le_refl _) _⟩
set_option maxRecDepth 100000 in
set_option maxHeartbeats 4000000 in
theorem deed_1 (n : Int) (w : World) : Calls Tryz.prog 37 #[.agg #[.int .i8 1, .int .i64 n]] w (GivesB w (deedV 1 n)) := by
  have bel : ∀ o1 o2, Below w.heap.size w ((w.alloc o1).alloc o2) := fun o1 o2 => ((Below.refl _ _).alloc (Nat.le_refl _) _).alloc (by simp) _
  have HF := hid (fun W => act_onward 1 n W)
  go_enter Tryz.func37, Tryz.ntmps37
  go_wp2_with fail
  refine (HF.out _).mono ?_
  rintro e w1 ⟨rfl, hB1⟩
  simp only [World.size_alloc] at hB1
  go_wp2_with fail
  go_ret
  exact ⟨rfl, (bel _ _).trans (hB1.mono (by omega))⟩
set_option maxRecDepth 100000 in
set_option maxHeartbeats 4000000 in
theorem deed_2 (n : Int) (w : World) : Calls Tryz.prog 37 #[.agg #[.int .i8 2, .int .i64 n]] w (GivesB w (deedV 2 n)) := by
  have bel : ∀ o1 o2, Below w.heap.size w ((w.alloc o1).alloc o2) := fun o1 o2 => ((Below.refl _ _).alloc (Nat.le_refl _) _).alloc (by simp) _
  have HF := hid (fun W => act_backward 2 n W)
  go_enter Tryz.func37, Tryz.ntmps37
  go_wp2_with fail
  refine (HF.out _).mono ?_
  rintro e w1 ⟨rfl, hB1⟩
  simp only [World.size_alloc] at hB1
  go_wp2_with fail
  go_ret
  exact ⟨rfl, (bel _ _).trans (hB1.mono (by omega))⟩
set_option maxRecDepth 100000 in
set_option maxHeartbeats 4000000 in
theorem deed_3 (n : Int) (w : World) : Calls Tryz.prog 37 #[.agg #[.int .i8 3, .int .i64 n]] w (GivesB w (deedV 3 n)) := by
  have bel : ∀ o1 o2, Below w.heap.size w ((w.alloc o1).alloc o2) := fun o1 o2 => ((Below.refl _ _).alloc (Nat.le_refl _) _).alloc (by simp) _
  have HF := hid (fun W => act_preset 3 n W)
  go_enter Tryz.func37, Tryz.ntmps37
  go_wp2_with fail
  refine (HF.out _).mono ?_
  rintro e w1 ⟨rfl, hB1⟩
  simp only [World.size_alloc] at hB1
  go_wp2_with fail
  go_ret
  exact ⟨rfl, (bel _ _).trans (hB1.mono (by omega))⟩
set_option maxRecDepth 100000 in
set_option maxHeartbeats 4000000 in
theorem deed_4 (n : Int) (w : World) : Calls Tryz.prog 37 #[.agg #[.int .i8 4, .int .i64 n]] w (GivesB w (deedV 4 n)) := by
  have bel : ∀ o1 o2, Below w.heap.size w ((w.alloc o1).alloc o2) := fun o1 o2 => ((Below.refl _ _).alloc (Nat.le_refl _) _).alloc (by simp) _
  have HF := hid (fun W => act_reset 4 n W)
  go_enter Tryz.func37, Tryz.ntmps37
  go_wp2_with fail
  refine (HF.out _).mono ?_
  rintro e w1 ⟨rfl, hB1⟩
  simp only [World.size_alloc] at hB1
  go_wp2_with fail
  go_ret
  exact ⟨rfl, (bel _ _).trans (hB1.mono (by omega))⟩
set_option maxRecDepth 100000 in
set_option maxHeartbeats 4000000 in
theorem deed_5 (n : Int) (w : World) : Calls Tryz.prog 37 #[.agg #[.int .i8 5, .int .i64 n]] w (GivesB w (deedV 5 n)) := by
  have bel : ∀ o1 o2, Below w.heap.size w ((w.alloc o1).alloc o2) := fun o1 o2 => ((Below.refl _ _).alloc (Nat.le_refl _) _).alloc (by simp) _
  have HF := hid (fun W => act_ticket 5 n W)
  go_enter Tryz.func37, Tryz.ntmps37
  go_wp2_with fail
  refine (HF.out _).mono ?_
  rintro e w1 ⟨rfl, hB1⟩
  simp only [World.size_alloc] at hB1
  go_wp2_with fail
  go_ret
  exact ⟨rfl, (bel _ _).trans (hB1.mono (by omega))⟩
theorem deed_any (k n : Int) (h : okAct k n = true) (w : World) : Calls Tryz.prog 37 #[.agg #[.int .i8 k, .int .i64 n]] w (GivesB w (deedV k n)) := by
  rcases okAct_kind h with rfl | rfl | rfl | rfl | rfl
  · exact deed_1 n w
  · exact deed_2 n w
  · exact deed_3 n w
  · exact deed_4 n w
  · exact deed_5 n w
end Go.Proofs.YtoenefhobjpfdaaGreatDoor
