/- impl.LeastStack, out of its range, or with a base that is too great. -/
import Derived.Test.YtobephnmbpoopaaLsB
import Derived.Test.YtobephnmbpoopaaLsU
namespace Go.Proofs.Ytobephnmbpoopaa
open Go.RowKit
set_option linter.unusedVariables false
set_option linter.unusedSimpArgs false
set_option maxRecDepth 100000 in
set_option maxHeartbeats 1000000 in
theorem implLeastStack_out (size n : Int) (h : ¬ ((1 ≤ size ∧ size ≤ 1000000000000) ∧ 1 ≤ n ∧ n ≤ 8)) (w : World) : Calls Try.prog 6 #[.int .i64 size, .int .i64 n] w (LsN w) := by
  by_cases a1 : size < 1
  · clear h
    go_enter Try.func6, Try.ntmps6
    go_wp2_with fail
    exact bodyPost_ret (v := .tuple #[.slice none 0 0, .int .i64 2]) (by simp [results, Try.results6, go_sem]) rfl ⟨_, rfl, .inl ⟨rfl, _, _, rfl⟩, Below.refl _ _⟩
    
  by_cases a2 : 1000000000000 < size
  · clear h
    go_enter Try.func6, Try.ntmps6
    go_wp2_with fail
    exact bodyPost_ret (v := .tuple #[.slice none 0 0, .int .i64 2]) (by simp [results, Try.results6, go_sem]) rfl ⟨_, rfl, .inl ⟨rfl, _, _, rfl⟩, Below.refl _ _⟩
    
  by_cases a3 : n < 1
  · clear h
    go_enter Try.func6, Try.ntmps6
    go_wp2_with fail
    exact bodyPost_ret (v := .tuple #[.slice none 0 0, .int .i64 2]) (by simp [results, Try.results6, go_sem]) rfl ⟨_, rfl, .inl ⟨rfl, _, _, rfl⟩, Below.refl _ _⟩
    
  have a4 : 8 < n := by omega
  clear h
  go_enter Try.func6, Try.ntmps6
  go_wp2_with fail
  exact bodyPost_ret (v := .tuple #[.slice none 0 0, .int .i64 2]) (by simp [results, Try.results6, go_sem]) rfl ⟨_, rfl, .inl ⟨rfl, _, _, rfl⟩, Below.refl _ _⟩
set_option maxRecDepth 100000 in
set_option maxHeartbeats 1000000 in
/-- a base that is too great -/
theorem implLeastStack_great (size : Int) (n : Nat) (hs : 1 ≤ size) (hs2 : size ≤ 1000000000000) (hn : 1 ≤ n) (h8 : n ≤ 8) (hb : baseIs size n 101) (w : World) : Calls Try.prog 6 #[.int .i64 size, .int .i64 (n : Int)] w (LsG size n w) := by
  have HB := hid (leastBase_any size n h8 w)
  have HBI := hid hb
  have a1 : ¬ size < 1 := by omega
  have a2 : ¬ 1000000000000 < size := by omega
  have a3 : ¬ (n : Int) < 1 := by omega
  have a4 : ¬ (8 : Int) < (n : Int) := by omega
  clear hb hs hs2 hn h8
  go_enter Try.func6, Try.ntmps6
  go_wp2_with fail
  refine HB.out.mono ?_
  rintro e w1 ⟨⟨b, rfl, hbb, _⟩, hw⟩
  subst hw
  obtain rfl := base_uniq hbb HBI.out
  clear hbb
  go_wp2_with fail
  exact bodyPost_ret (v := .tuple #[.slice none 0 0, .int .i64 3]) (by simp [results, Try.results6, go_sem]) rfl ⟨101, _, 3, HBI.out, by omega, rfl, Below.refl _ _, .inl ⟨rfl, rfl, .inl ⟨rfl, _, _, rfl⟩⟩⟩
end Go.Proofs.Ytobephnmbpoopaa
