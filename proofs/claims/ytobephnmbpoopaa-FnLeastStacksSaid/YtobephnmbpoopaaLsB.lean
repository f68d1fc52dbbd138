/- The least stack: the base. -/
import Derived.Test.YtobephnmbpoopaaLsP
import Derived.ScopeJumps
import Derived.WalkMore
namespace Go.Proofs.Ytobephnmbpoopaa
open Go.RowKit
set_option linter.unusedVariables false
set_option linter.unusedSimpArgs false
set_option maxRecDepth 100000 in
set_option maxHeartbeats 1000000 in
theorem leastBase_any (size : Int) (n : Nat) (hn : n ≤ 8) (w : World) : Calls Try.prog 13 #[.int .i64 size, .int .i64 (n : Int)] w fun e w' => (∃ b, e = .returned (.int .i64 b) ∧ baseIs size n b ∧ b ≤ 101) ∧ w' = w := by
  have HN := hid hn
  clear hn
  go_enter Try.func13, Try.ntmps13
  go_wp2_with fail
  refine wp_scope_jumps 0 (fun a' w' => w' = w ∧ ∃ (b : Int) (u6_ u7_ u8_ u9_ u10_ u11_ u12_ u13_ u14_ u15_ u16_ : Value), a' = { tmps := #[.int .i64 size, .int .i64 (n : Int), undef, undef, .int .i64 0, .int .i64 b, u6_, u7_, u8_, u9_, u10_, u11_, u12_, u13_, u14_, u15_, u16_, undef], defers := [] } ∧ 2 ≤ b ∧ b ≤ 101 ∧ (∀ c : Int, 2 ≤ c → c < b → c ≤ 100 ∧ c ^ n < size)) (fun a' _ => (101 - intOf (a'.tmps.getD 5 undef)).toNat) rfl ?_ ?_
  · go_wp2_with fail
    go_step3
    have h2 : (2 : Int) ≤ 2 := by omega
    have hA := hid (base_first size n)
    have w1' : IntKind.i64.wrap (2 + 1) = 2 + 1 := IntWalk.i64_in _ (by omega)
    by_cases h100 : (2 : Int) ≤ 100
    · have HP := hid (power_any 2 ⟨h2, h100⟩ n HN.out w)
      obtain ⟨P, hP⟩ : ∃ y, (2 : Int) ^ n = y := ⟨_, rfl⟩
      by_cases hlt : (2 : Int) ^ n < size
      · have HL := hid hlt
        rw [hP] at HP hlt
        clear hP
        go_wp2_with fail
        refine HP.out.mono ?_
        rintro e w1 ⟨rfl, hw⟩
        subst hw
        go_wp2_with fail
        go_step3
        exact ⟨rfl, rfl, 2 + 1, _, _, _, _, _, _, _, _, _, _, _, rfl, by omega, by omega, base_next hA.out (by omega) HL.out⟩
      · have HL := hid (show baseIs size n 2 from ⟨h2, hA.out, .inr (by omega)⟩)
        rw [hP] at HP hlt
        clear hP
        go_wp2_with fail
        refine HP.out.mono ?_
        rintro e w1 ⟨rfl, hw⟩
        subst hw
        go_wp2_with fail
        simp only [Exit.jump]
        go_ret
        exact ⟨⟨2, rfl, HL.out, by omega⟩, rfl⟩
    · have HL := hid (show baseIs size n 2 from ⟨h2, hA.out, .inl (by omega)⟩)
      go_wp2_with fail
      simp only [Exit.jump]
      go_ret
      exact ⟨⟨2, rfl, HL.out, by omega⟩, rfl⟩
  · rintro a' w' ⟨rfl, b, u6_, u7_, u8_, u9_, u10_, u11_, u12_, u13_, u14_, u15_, u16_, rfl, h2, h101, hA0⟩
    have hA := hid hA0
    clear hA0
    have w1' : IntKind.i64.wrap (b + 1) = b + 1 := IntWalk.i64_in _ (by omega)
    by_cases h100 : (b : Int) ≤ 100
    · have HP := hid (power_any b ⟨h2, h100⟩ n HN.out w')
      obtain ⟨P, hP⟩ : ∃ y, (b : Int) ^ n = y := ⟨_, rfl⟩
      by_cases hlt : (b : Int) ^ n < size
      · have HL := hid hlt
        rw [hP] at HP hlt
        clear hP
        go_wp2_with fail
        refine HP.out.mono ?_
        rintro e w1 ⟨rfl, hw⟩
        subst hw
        go_wp2_with fail
        go_step3
        exact ⟨rfl, ⟨rfl, b + 1, _, _, _, _, _, _, _, _, _, _, _, rfl, by omega, by omega, base_next hA.out (by omega) HL.out⟩, by simp [intOf]; omega⟩
      · have HL := hid (show baseIs size n b from ⟨h2, hA.out, .inr (by omega)⟩)
        rw [hP] at HP hlt
        clear hP
        go_wp2_with fail
        refine HP.out.mono ?_
        rintro e w1 ⟨rfl, hw⟩
        subst hw
        go_wp2_with fail
        simp only [Exit.jump]
        go_ret
        exact ⟨⟨b, rfl, HL.out, by omega⟩, rfl⟩
    · have HL := hid (show baseIs size n b from ⟨h2, hA.out, .inl (by omega)⟩)
      go_wp2_with fail
      simp only [Exit.jump]
      go_ret
      exact ⟨⟨b, rfl, HL.out, by omega⟩, rfl⟩
end Go.Proofs.Ytobephnmbpoopaa
