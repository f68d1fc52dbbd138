/- The model's joint. -/
import Derived.Test.YtomhmkdfhhmenaaParts
namespace Go.Proofs.Ytomhmkdfhhmenaa
open Go.RowKit

set_option maxHeartbeats 1000000 in
theorem l02Beyond_any (B b n cap g m cap' : Nat) (zs : List Int) (js : List (Int × Int)) (k : Nat) (q : Int) (w : World) (hM : MoAt w B b n cap g m cap' zs js) (hn : n = zs.length) (hm : m = js.length) (hk : k < js.length) (hkz : k < zs.length) (hz : 2 ≤ zs[k]?.getD 0 ∧ zs[k]?.getD 0 ≤ 100) (hj : okJ (jk js k) (jf js k) = true) (hq : 0 ≤ q ∧ q < zs[k]?.getD 0 * 1000) :
    Calls Try.prog 53 #[.pointer (some ⟨B, 0, none⟩), .int .i64 ((k : Int) + 1), .int .i64 q] w fun e w' => e = .returned (.int .i64 (beyJ (jk js k) (jf js k) q (zs[k]?.getD 0))) ∧ Below w.heap.size w w' := by
  have bd := beyJ_bd hj hz hq
  have hBl := hM.1.lt
  have hbl := hM.2.1.1
  have hln := hM.2.1.2.2.2
  have hlm := hM.2.2.2.2
  rw [← hn] at hln
  rw [← hm] at hlm
  have cs := hM.2.1.2.1 k hkz
  have g0 := (hM.2.2.2.1 k hk).1
  have g1 := (hM.2.2.2.1 k hk).2
  have c0 := hM.cells.1
  have c1 := hM.cells.2
  have kn : (k : Int) < (n : Int) := by omega
  have km : (k : Int) < (m : Int) := by omega
  have e1 : (k : Int) + 1 - 1 = (k : Int) := by omega
  have k0 : (0 : Int) ≤ (k : Int) := by omega
  obtain ⟨z, hzz⟩ : ∃ z, z = zs[k]?.getD 0 := ⟨_, rfl⟩
  obtain ⟨kk, hkk⟩ : ∃ x, x = jk js k := ⟨_, rfl⟩
  obtain ⟨f, hff⟩ : ∃ x, x = jf js k := ⟨_, rfl⟩
  rw [← hzz] at cs hz hq bd
  rw [← hkk] at g0 hj bd
  rw [← hff] at g1 hj bd
  rw [← hzz, ← hkk, ← hff]
  have wz : IntKind.i64.wrap z = z := IntWalk.i64_in z (by omega)
  have bA : Below w.heap.size w (w.alloc (.cells #[.int .i8 kk, .int .i16 f] 75)) := (Below.refl _ w).alloc (Nat.le_refl _) _
  clear hM hn hm hk hkz hzz hkk hff
  have hz0 : z ≠ 0 := by omega
  rcases okJ_out hj with ⟨rfl, rfl⟩ | ⟨rfl, f0, f1⟩
  · rw [beyJ_even] at bd ⊢
    have e2 : q.tdiv z = q / z := Int.tdiv_eq_ediv_of_nonneg hq.1
    obtain ⟨x, hx⟩ : ∃ x, x = q / z := ⟨_, rfl⟩
    rw [← hx] at e2 bd
    rw [← hx]
    have wx : IntKind.i64.wrap x = x := IntWalk.i64_in x (by omega)
    clear hx hj
    go_enter Try.func53, Try.ntmps53
    go_wp2_with fail
    go_ret
    exact ⟨rfl, bA⟩
  · have wf : IntKind.i64.wrap f = f := IntWalk.i64_in f (by omega)
    by_cases h : q < (z - 1) * 1000 + f
    · rw [beyJ_rest h]
      clear hj bd
      go_enter Try.func53, Try.ntmps53
      go_wp2_with fail
      go_ret
      exact ⟨rfl, bA⟩
    · rw [beyJ_late h] at bd ⊢
      have hx : 0 ≤ q - ((z - 1) * 1000 + f) := by omega
      have hx2 : q - ((z - 1) * 1000 + f) < 1000 := by omega
      have n1 : 1000 - f ≠ 0 := by omega
      have hge : (z - 1) * 1000 + f ≤ q := by omega
      clear hj h
      go_enter Try.func53, Try.ntmps53
      go_wp2_with fail
      go_ret
      exact ⟨rfl, bA⟩

end Go.Proofs.Ytomhmkdfhhmenaa
