/- SameMotion: joints compared, motions compared; the program's, the model's. -/
import Derived.Test.YthpoeaoikfekgaaMotion
import Derived.Test.YthpoeaoikfekgaaSame
import Derived.Deep.QuietTactic
import Derived.Laws.StructEq
namespace Go.Proofs.Ythpoeaoikfekgaa
open Go.RowKit
theorem joint_under : Try.prog.underlying 60 = some (.struct (Try.prog.fieldsOf 60)) := by rw [Program.fieldsOf, Try.underlying60]
theorem joint_neq (a b c d : Int) (w : World) : Sem.run Try.prog (binOp .neq 60 (.agg #[.int .i8 a, .int .i16 b]) (.agg #[.int .i8 c, .int .i16 d])) w = .ok (.bool (!(a == c && b == d))) w := by
  have k : Try.prog.underlying 58 = some (.int .i16) := Try.underlying58
  have k8 : Try.prog.underlying 57 = some (.int .i8) := Try.underlying57
  obtain ⟨fs, hf, hu⟩ : ∃ fs, Try.prog.fieldsOf 60 = fs ∧ Try.prog.underlying 60 = some (.struct fs) := ⟨_, rfl, joint_under⟩
  have hfs := Option.some.inj (Try.underlying60.symm.trans hu)
  simp only [TypeDesc.struct.injEq] at hfs
  subst hfs
  rw [run_neq_struct, run_equalIn_struct w 9999 60 _ _ joint_under (by kernel_rfl), hf]
  by_cases h1 : a = c
  · subst h1
    by_cases h2 : b = d
    · subst h2
      simp [Op.eqFields, go_sem, run_equalIn_int _ _ _ _ _ _ _ k, run_equalIn_int _ _ _ _ _ _ _ k8]
    · simp [Op.eqFields, go_sem, run_equalIn_int _ _ _ _ _ _ _ k, run_equalIn_int _ _ _ _ _ _ _ k8, h2]
  · simp [Op.eqFields, go_sem, run_equalIn_int _ _ _ _ _ _ _ k, run_equalIn_int _ _ _ _ _ _ _ k8, h1]
def samJ (js ks : List (Int × Int)) : Bool := decide (js.length = ks.length) && (List.range js.length).all fun j => decide (jk js j = jk ks j ∧ jf js j = jf ks j)
def samJo (js ks : List (Int × Int)) (k : Nat) : Prop := ∀ j, j < k → jk js j = jk ks j ∧ jf js j = jf ks j
theorem samJ_len {js ks : List (Int × Int)} (h : js.length ≠ ks.length) : samJ js ks = false := by simp [samJ, h]
theorem samJ_yes {js ks : List (Int × Int)} (h : js.length = ks.length) (k : samJo js ks js.length) : samJ js ks = true := by
  simp only [samJ, Bool.and_eq_true, decide_eq_true_eq, List.all_eq_true, List.mem_range]
  exact ⟨h, fun j hj => k j hj⟩
theorem samJ_bad {js ks : List (Int × Int)} (k : Nat) (hk : k < js.length) (h : ¬ (jk js k = jk ks k ∧ jf js k = jf ks k)) : samJ js ks = false := by
  cases e : samJ js ks with
  | false => rfl
  | true =>
    simp only [samJ, Bool.and_eq_true, decide_eq_true_eq, List.all_eq_true, List.mem_range] at e
    exact absurd (e.2 k hk) h
theorem samJo_succ {js ks : List (Int × Int)} {k : Nat} (h : samJo js ks k) (e : jk js k = jk ks k ∧ jf js k = jf ks k) : samJo js ks (k + 1) := fun j hj => by
  by_cases he : j = k
  · subst he; exact e
  · exact h j (by omega)
set_option maxHeartbeats 2000000 in
theorem equalJ_any (b1 b2 n1 n2 c1 c2 : Nat) (js ks : List (Int × Int)) (w : World) (h1 : Jst w b1 js) (h2 : Jst w b2 ks) (hn1 : n1 = js.length) (hn2 : n2 = ks.length) :
    Calls Try.prog 27 #[.slice (some ⟨b1, 0, none⟩) n1 c1, .slice (some ⟨b2, 0, none⟩) n2 c2] w fun e w' => e = .returned (.bool (samJ js ks)) ∧ Below w.heap.size w w' := by
  by_cases hl : n1 = n2
  · subst hl
    have hle := h1.2.2
    rw [← hn1] at hle
    have hC1 := hid h1.2.1
    have hC2 := hid h2.2.1
    have hN1 := hid hn1
    have hN2 := hid hn2
    have hg : Try.prog.eqGuardType Try.prog.depth 60 = false := by kernel_rfl
    have hne : ((n1 : Int) != (n1 : Int)) = false := by simp
    clear h1 h2 hn1 hn2
    go_enter Try.func27, Try.ntmps27
    go_wp2_with fail
    go_loopw [13] (fun i wr => ∃ k : Nat, k ≤ n1 ∧ i = .int .i64 k ∧ samJo js ks k ∧ ∃ d, wr = w.drewN d) (fun i _ => n1 - (intOf i).toNat)
    case atStart => exact ⟨0, Nat.zero_le _, rfl, fun j h => by omega, 0, rfl⟩
    case round =>
      obtain ⟨k, hk, rfl, hok, d, rfl⟩ := hrel
      have HK := hid hok
      clear hok
      by_cases hlt : k < n1
      · have cc := hC1.out k (by rw [← hN1.out]; exact hlt)
        have dd := hC2.out k (by rw [← hN2.out]; exact hlt)
        have x1 := cc.1
        have x2 := cc.2
        have y1 := dd.1
        have y2 := dd.2
        have hlt' : (k : Int) < (n1 : Int) := by omega
        have hk0 : (0 : Int) ≤ (k : Int) := by omega
        obtain ⟨x, hx⟩ : ∃ z, jk js k = z := ⟨_, rfl⟩
        obtain ⟨y, hy⟩ : ∃ z, jf js k = z := ⟨_, rfl⟩
        obtain ⟨u, hu⟩ : ∃ z, jk ks k = z := ⟨_, rfl⟩
        obtain ⟨v, hv⟩ : ∃ z, jf ks k = z := ⟨_, rfl⟩
        rw [hx] at x1
        rw [hy] at x2
        rw [hu] at y1
        rw [hv] at y2
        have HH := hid (And.intro hx (And.intro hy (And.intro hu hv)))
        clear cc dd hx hy hu hv
        by_cases he : x = u ∧ y = v
        · have hE : ∀ w, Sem.run Try.prog (binOp .neq 60 (.agg #[.int .i8 x, .int .i16 y]) (.agg #[.int .i8 u, .int .i16 v])) w = .ok (.bool false) w := fun w => by
            rw [joint_neq]; simp [he.1, he.2]
          have HE := hid he
          clear he
          go_wp2_with fail
          go_quiet (fail)
          go_wp2_with fail
          go_roundw
          case rel => exact ⟨k + 1, by omega, by go_num, samJo_succ HK.out (by rw [HH.out.1, HH.out.2.1, HH.out.2.2.1, HH.out.2.2.2]; exact HE.out), _, rfl⟩
          case measure => simp [intOf]; omega
        · have hE : ∀ w, Sem.run Try.prog (binOp .neq 60 (.agg #[.int .i8 x, .int .i16 y]) (.agg #[.int .i8 u, .int .i16 v])) w = .ok (.bool true) w := fun w => by
            have e : (x == u && y == v) = false := by
              by_cases h1 : x = u
              · have h2 : ¬ y = v := fun h => he ⟨h1, h⟩
                simp [h2]
              · simp [h1]
            rw [joint_neq, e]
            rfl
          have HF := hid (samJ_bad (js := js) (ks := ks) k (by rw [← hN1.out]; exact hlt) (by rw [HH.out.1, HH.out.2.1, HH.out.2.2.1, HH.out.2.2.2]; exact he))
          clear he
          go_wp2_with fail
          go_quiet (fail)
          go_wp2_with fail
          go_ret
          exact ⟨by rw [HF.out]; rfl, below_drewN (below_drewN (Below.refl _ _) _) _⟩
      · obtain rfl : k = n1 := by omega
        have HF := hid (samJ_yes (js := js) (ks := ks) (by rw [← hN1.out, ← hN2.out]) (by rw [← hN1.out]; exact HK.out))
        go_wp2_with fail
        go_ret
        exact ⟨by rw [HF.out]; rfl, below_drewN (Below.refl _ _) _⟩
  · have hne : ((n1 : Int) != (n2 : Int)) = true := by
      simp only [bne_iff_ne, ne_eq]; omega
    have HF := hid (samJ_len (js := js) (ks := ks) (by omega))
    clear h1 h2 hn1 hn2 hl
    go_enter Try.func27, Try.ntmps27
    go_wp2_with fail
    go_ret
    exact ⟨by rw [HF.out]; rfl, Below.refl _ _⟩
end Go.Proofs.Ythpoeaoikfekgaa
