/- The search for a day, and how much has been counted up to it; the program's. -/
import Derived.Test.YtbefbkklompcjaaDoorOnM
import Derived.Test.YtbefbkklompcjaaDoorTotV
import Derived.Test.YtbefbkklompcjaaDoorMetC
import Derived.Test.YtbefbkklompcjaaDoorCmp
import Derived.Deep.DeepCutAuto
namespace Go.Proofs.YtbefbkklompcjaaDoor
open Go.RowKit
set_option linter.unusedVariables false
theorem onCmp_any (d c day : Int) (w : World) : Calls Tryd.prog 57 #[.agg #[.int .i64 d, .int .i64 c], .int .i64 day] w (GivesB w (.int .i64 (cmp3 d day))) := by
  have bel := hid (box2_bel w 62 (.int .i64 d) (.int .i64 c))
  have HC := hid (fun w => compare64 d day w)
  go_enter Tryd.func57, Tryd.ntmps57
  go_wp2_with fail
  refine (HC.out _).mono ?_
  rintro e w1 ⟨rfl, rfl⟩
  go_wp2_with fail
  go_ret
  exact ⟨rfl, bel.out⟩
/-- what a search for a day gives -/
def SrchR (w : World) (js : List (Int × Int)) (day : Int) (e : Ending) (w' : World) : Prop :=
  ∃ i : Nat, e = .returned (.tuple #[.int .i64 i, .bool (decide (rd js i = day))]) ∧ i < js.length ∧ (∀ m, m < i → rd js m < day) ∧ day ≤ rd js i ∧ Below w.heap.size w w'
set_option maxRecDepth 100000 in
set_option maxHeartbeats 4000000 in
theorem search_any (b n cap : Nat) (js : List (Int × Int)) (hn : n = js.length) (hl : n ≤ 60) (hu : uwTo js js.length) (day : Int) (has : hasOn js day) (w : World) (hR : Rst w b js) :
    Calls Tryd.prog 56 #[.slice (some ⟨b, 0, none⟩) n cap, .int .i64 day, .func (.func 57) #[] #[]] w (SrchR w js day) := by
  have hC := hid hR.2.1
  have hbl := hR.1
  have HN := hid hn
  have HU := hid hu
  have HAS := hid has
  have h60 : (n : Int) ≤ 60 := by omega
  clear hn hR hu has
  go_enter Tryd.func56, Tryd.ntmps56
  go_wp2_with fail
  go_loopw [9, 10, 11] (fun s t h wr => ∃ I J : Nat, I ≤ J ∧ J ≤ n ∧ s = .int .i64 I ∧ t = .int .i64 J ∧ (∀ m, m < I → rd js m < day) ∧ (∀ m, J ≤ m → m < n → day ≤ rd js m) ∧ Below w.heap.size w wr) (fun s t _ _ => (intOf t).toNat - (intOf s).toNat)
  case atStart => exact ⟨0, n, by omega, Nat.le_refl _, rfl, rfl, fun m h => by omega, fun m h1 h2 => by omega, Below.refl _ _⟩
  case round =>
    obtain ⟨I, J, hIJ, hJn, rfl, rfl, hlo, hhi, hB⟩ := hrel
    have HLO := hid hlo
    have HHI := hid hhi
    have HB := hid hB
    have hzr := hB.size
    have hI0 : (0 : Int) ≤ (I : Int) := by omega
    have hJ0 : (0 : Int) ≤ (J : Int) := by omega
    clear hlo hhi
    by_cases hlt : I < J
    · have hlt' : (I : Int) < (J : Int) := by omega
      obtain ⟨h, hh⟩ : ∃ h : Nat, h = (I + J) / 2 := ⟨_, rfl⟩
      have hh2 : ((I : Int) + (J : Int)) / 2 = (h : Int) := by omega
      have h1 : I ≤ h := by omega
      have h2 : h < J := by omega
      have hn1 : h < n := by omega
      have hn2 : (h : Int) < (n : Int) := by omega
      have h0 : (0 : Int) ≤ (h : Int) := by omega
      have cc := hC.out h (by have := HN.out; omega)
      have x1 := (hB.cell (p := ⟨b, h * 2, none⟩) hbl).trans cc.1
      have x2 := (hB.cell (p := ⟨b, h * 2 + 1, none⟩) hbl).trans cc.2
      have th : IntKind.i64.wrap (h : Int) = (h : Int) := IntWalk.i64_in _ (by omega)
      have HC := hid (fun w => onCmp_any (rd js h) (rv js h) day w)
      have tj : IntKind.i64.wrap ((h : Int) + 1) = (h : Int) + 1 := IntWalk.i64_in _ (by omega)
      clear cc hB hh
      by_cases hc : rd js h < day
      · rw [cmp3_lt hc] at HC
        have HL2 := hid (show ∀ m, m < h + 1 → rd js m < day by
          intro m hm
          have a := mono_le HU.out (show m ≤ h by omega) (by have := HN.out; omega)
          omega)
        obtain ⟨D, hD⟩ : ∃ D, rd js h = D := ⟨_, rfl⟩
        obtain ⟨E, hE⟩ : ∃ D, rv js h = D := ⟨_, rfl⟩
        rw [hD] at x1 HC
        rw [hE] at x2 HC
        clear hD hE hc
        go_wp2_with fail
        refine (HC.out _).mono ?_
        rintro e w1 ⟨rfl, hB1⟩
        have B1 := hid (HB.out.trans (hB1.mono hzr))
        clear x1 x2 hB1
        go_wp2_with fail
        go_roundw
        case rel => exact ⟨h + 1, J, by omega, hJn, by go_num, rfl, HL2.out, HHI.out, B1.out⟩
        case measure => simp [intOf]; omega
      · have hge := cmp3_ge hc
        have HL2 := hid (show ∀ m, h ≤ m → m < n → day ≤ rd js m by
          intro m hm hmn
          have a := mono_le HU.out hm (by have := HN.out; omega)
          omega)
        obtain ⟨z, hz⟩ : ∃ z, cmp3 (rd js h) day = z := ⟨_, rfl⟩
        rw [hz] at HC hge
        obtain ⟨D, hD⟩ : ∃ D, rd js h = D := ⟨_, rfl⟩
        obtain ⟨E, hE⟩ : ∃ D, rv js h = D := ⟨_, rfl⟩
        rw [hD] at x1 HC
        rw [hE] at x2 HC
        have hz0 : ¬ z < 0 := by omega
        clear hD hE hc hz
        go_wp2_with fail
        refine (HC.out _).mono ?_
        rintro e w1 ⟨rfl, hB1⟩
        have B1 := hid (HB.out.trans (hB1.mono hzr))
        clear x1 x2 hB1
        go_wp2_with fail
        go_roundw
        case rel => exact ⟨I, h, h1, by omega, rfl, rfl, HLO.out, HL2.out, B1.out⟩
        case measure => simp [intOf]; omega
    · obtain rfl : I = J := by omega
      have hin : I < n := by
        by_cases e : I < n
        · exact e
        · obtain ⟨p1, p2, p3⟩ := HAS.out
          have := HLO.out (js.length - 1) (by have := HN.out; omega)
          omega
      have hin' : (I : Int) < (n : Int) := by omega
      have dI : decide (I < n) = true := decide_eq_true hin
      have cc := hC.out I (by have := HN.out; omega)
      have x1 := (hB.cell (p := ⟨b, I * 2, none⟩) hbl).trans cc.1
      have x2 := (hB.cell (p := ⟨b, I * 2 + 1, none⟩) hbl).trans cc.2
      have HC := hid (fun w => onCmp_any (rd js I) (rv js I) day w)
      have HE := hid (show (cmp3 (rd js I) day == 0) = decide (rd js I = day) by
        unfold cmp3
        by_cases a : rd js I < day
        · rw [if_pos a]; simp; omega
        · rw [if_neg a]
          by_cases c : day < rd js I
          · rw [if_pos c]; simp; omega
          · rw [if_neg c]; simp; omega)
      have HD := hid (HHI.out I (Nat.le_refl _) hin)
      obtain ⟨z, hz⟩ : ∃ z, cmp3 (rd js I) day = z := ⟨_, rfl⟩
      rw [hz] at HC HE
      obtain ⟨D, hD⟩ : ∃ D, rd js I = D := ⟨_, rfl⟩
      obtain ⟨E, hE⟩ : ∃ D, rv js I = D := ⟨_, rfl⟩
      rw [hD] at x1 HC
      rw [hE] at x2 HC
      have HDD := hid hD
      have HLI := hid (show I < js.length by have := HN.out; omega)
      clear hD hE hz cc hB
      go_wp2_with fail
      refine (HC.out _).mono ?_
      rintro e w1 ⟨rfl, hB1⟩
      have B1 := hid (HB.out.trans (hB1.mono hzr))
      clear x1 x2 hB1
      go_wp2_with fail
      go_ret2
      exact ⟨I, by rw [← HE.out]; rfl, HLI.out, HLO.out, HD.out, B1.out⟩
end Go.Proofs.YtbefbkklompcjaaDoor
