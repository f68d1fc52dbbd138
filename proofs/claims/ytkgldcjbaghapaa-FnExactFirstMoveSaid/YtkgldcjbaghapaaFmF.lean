/- FirstMove: the program's and the model's. -/
import Derived.Test.YtkgldcjbaghapaaFmS
namespace Go.Proofs.Ytkgldcjbaghapaa
open Go.RowKit
theorem szL_le {zs : List Int} (hin : inB zs zs.length) (k : Nat) (hk : k ≤ zs.length) : szL (zs.take k) ≤ szL zs := by
  obtain ⟨d, hd⟩ : ∃ d, k + d = zs.length := ⟨zs.length - k, by omega⟩
  induction d generalizing k with
  | zero =>
    rw [show k = zs.length by omega, List.take_length]
    exact Int.le_refl _
  | succ d ih =>
    have h1 := ih (k + 1) (by omega) (by omega)
    have h2 := szL_mono zs k (by omega) (fun j hj => hin j (by omega))
    have h3 := (szL_bd zs k (by omega) (fun j hj => hin j (by omega))).1
    omega
theorem parts_at (zs : List Int) (js : List (Int × Int)) (t : Int) (k : Nat) (hk8 : k < 8) (hk : k < zs.length) : ([dg (partsL zs js t) 0, dg (partsL zs js t) 1, dg (partsL zs js t) 2, dg (partsL zs js t) 3, dg (partsL zs js t) 4, dg (partsL zs js t) 5, dg (partsL zs js t) 6, dg (partsL zs js t) 7] : List Int)[k]?.getD 0 = pL zs js t k := by
  have h : k = 0 ∨ k = 1 ∨ k = 2 ∨ k = 3 ∨ k = 4 ∨ k = 5 ∨ k = 6 ∨ k = 7 := by omega
  rcases h with rfl | rfl | rfl | rfl | rfl | rfl | rfl | rfl <;> simp [dg, partsL, hk]
set_option maxRecDepth 100000 in
set_option maxHeartbeats 1000000 in
theorem implFirstMove_any (b n cap g m cap' : Nat) (zs : List Int) (js : List (Int × Int)) (y : Int) (w : World) (hS : Stk w b zs) (hJ : Jst w g js) (hn : n = zs.length) (hm : m = js.length) :
    Calls Try.prog 17 #[.agg #[.slice (some ⟨b, 0, none⟩) n cap, .slice (some ⟨g, 0, none⟩) m cap'], .int .i64 y] w fun e w' => e = .returned (.tuple #[.int .i64 (fmR zs js y).1, .int .i64 (fmR zs js y).2]) ∧ Below w.heap.size w w' := by
  have hB : Below w.heap.size w (w.alloc (.cells #[.slice (some ⟨b, 0, none⟩) n cap, .slice (some ⟨g, 0, none⟩) m cap'] 35)) := (Below.refl _ _).alloc (Nat.le_refl _) _
  have M := MoAt.new w b n cap g m cap' zs js hS hJ
  have hbl := hS.1
  have hgl := hJ.1
  have HVM := hid (fun (W : World) (M : MoAt W w.heap.size b n cap g m cap' zs js) => implValidMotion_any b n cap g m cap' zs js W M.2.1 M.2.2 hn hm)
  clear hS hJ
  cases hv : okM zs js with
  | false =>
    rw [hv] at HVM
    have HV := hid (fmR_no (y := y) hv)
    obtain ⟨p0, p1⟩ := M.cells
    clear hv hn hm
    go_enter Try.func17, Try.ntmps17
    go_wp2_with fail
    with_reducible refine (HVM.out _ M).mono ?_
    rintro e W1 ⟨rfl, hC⟩
    replace hB := hB.trans (hC.mono hB.size)
    clear p0 p1 M hC
    go_wp2_with fail
    go_ret2
    exact ⟨(show _ = Ending.returned (.tuple #[.int .i64 0, .int .i64 1]) from rfl).trans (by rw [HV.out]), hB⟩
  | true =>
    rw [hv] at HVM
    by_cases hw : 0 ≤ y ∧ y < n
    · obtain ⟨k, rfl⟩ : ∃ k : Nat, y = k := ⟨y.toNat, by omega⟩
      obtain ⟨hv1, hl, hjs⟩ := okM_out hv
      obtain ⟨h1, h8, hin, _, _⟩ := okL_out hv1
      have hk : k < zs.length := by omega
      have hk8 : k < 8 := by omega
      obtain ⟨f1, f2, f3, f4⟩ := fm_spec hv k hk
      have sb := spanL_bd hv1
      have s1 := (szL_bd zs k (by omega) (fun j hj => hin j (by omega))).1
      have s2 := szL_le hin k (by omega)
      have s3 : szL (zs.take k) * 1000 ≤ spanL zs := by unfold spanL; omega
      have HV := hid (fmR_yes hv hk)
      have HAT := hid (fun t => parts_at zs js t k hk8 hk)

      have HPL := hid (fun (W : World) (hS : Stk W b zs) => place_any b n cap k zs hn (by omega) (by rw [hn]; exact hin) (by omega) W hS)
      have HPT := hid (fun (t : Int) (W : World) (M : MoAt W w.heap.size b n cap g m cap' zs js) (ht : 0 ≤ t ∧ t ≤ 1000000000000000) => moParts_any b n cap g m cap' zs js t W M.2.1 M.2.2 hn hm hv ht)
      obtain ⟨s, hs⟩ : ∃ s, s = szL (zs.take k) := ⟨_, rfl⟩
      obtain ⟨T, hT⟩ : ∃ T, T = fmT zs js k := ⟨_, rfl⟩
      rw [← hs] at s1 s2 s3 f2 f4 HPL
      rw [← hT] at f1 f2 f3 f4 HV
      have F3 := hid f3
      have F4 := hid f4
      have sP : s * 1000 ≤ 1000000000000000 := by omega
      obtain ⟨p0, p1⟩ := M.cells
      clear hv hn hm hv1 hl hjs h1 h8 hin hk hs hT s2 s3 sb f3 f4
      go_enter Try.func17, Try.ntmps17
      go_wp2_with fail
      with_reducible refine (HVM.out _ M).mono ?_
      rintro e W1 ⟨rfl, hC⟩
      replace hB := hB.trans (hC.mono hB.size)
      replace M := M.keep hC
      clear p0 p1 hC
      obtain ⟨p0, p1⟩ := M.cells
      go_wp2_with fail
      with_reducible refine (hasWheel_yes _ _ _ _ hw _).mono ?_
      rintro e W2 ⟨rfl, rfl⟩
      have hSW := M.2.1
      go_wp2_with fail
      with_reducible refine (HPL.out _ hSW).mono ?_
      rintro e W3 ⟨rfl, hC⟩
      replace hB := hB.trans (hC.mono hB.size)
      replace M := M.keep hC
      clear p0 p1 hC HPL HVM hSW
      go_wp2_with fail
      go_loopw [6, 7] (fun lo hi wr => ∃ L U : Int, lo = .int .i64 L ∧ hi = .int .i64 U ∧ 1 ≤ L ∧ L ≤ T ∧ T ≤ U ∧ U ≤ s * 1000 ∧ MoAt wr w.heap.size b n cap g m cap' zs js ∧ Below w.heap.size w wr) (fun lo hi _ => (intOf hi - intOf lo).toNat)
      case atStart => exact ⟨1, s * 1000, rfl, rfl, Int.le_refl _, f1, f2, Int.le_refl _, M, hB⟩
      case round =>
      clear M hB
      obtain ⟨L, U, rfl, rfl, l1, l2, l3, l4, M, hB⟩ := hrel
      by_cases hlt : L < U
      · have mb : L ≤ (L + U) / 2 ∧ (L + U) / 2 < U := by omega
        obtain ⟨t, ht⟩ : ∃ t, t = (L + U) / 2 := ⟨_, rfl⟩
        have e1 : (L + U).tdiv 2 = t := by rw [ht]; exact Int.tdiv_eq_ediv_of_nonneg (by omega)
        rw [← ht] at mb
        clear ht
        have hpx := fun (W : World) (M : MoAt W w.heap.size b n cap g m cap' zs js) => HPT.out t W M ⟨by omega, by omega⟩
        have hat := HAT.out t
        obtain ⟨e0, he0⟩ : ∃ x, x = dg (partsL zs js t) 0 := ⟨_, rfl⟩
        obtain ⟨e1, he1⟩ : ∃ x, x = dg (partsL zs js t) 1 := ⟨_, rfl⟩
        obtain ⟨e2, he2⟩ : ∃ x, x = dg (partsL zs js t) 2 := ⟨_, rfl⟩
        obtain ⟨e3, he3⟩ : ∃ x, x = dg (partsL zs js t) 3 := ⟨_, rfl⟩
        obtain ⟨e4, he4⟩ : ∃ x, x = dg (partsL zs js t) 4 := ⟨_, rfl⟩
        obtain ⟨e5, he5⟩ : ∃ x, x = dg (partsL zs js t) 5 := ⟨_, rfl⟩
        obtain ⟨e6, he6⟩ : ∃ x, x = dg (partsL zs js t) 6 := ⟨_, rfl⟩
        obtain ⟨e7, he7⟩ : ∃ x, x = dg (partsL zs js t) 7 := ⟨_, rfl⟩
        simp only [← he0, ← he1, ← he2, ← he3, ← he4, ← he5, ← he6, ← he7] at hpx hat
        have HPX := hid hpx
        have hix := fun w => index_parts e0 e1 e2 e3 e4 e5 e6 e7 k hk8 w
        rw [hat] at hix
        have t3 := F3.out t
        have t4 := F4.out t
        obtain ⟨p, hp⟩ : ∃ p, p = pL zs js t k := ⟨_, rfl⟩
        rw [← hp] at hix t3 t4
        clear he0 he1 he2 he3 he4 he5 he6 he7 hpx hat hp
        obtain ⟨p0, p1⟩ := M.cells
        go_wp2_with fail
        with_reducible refine (HPX.out _ M).mono ?_
        rintro e W4 ⟨rfl, hC⟩
        replace hB := hB.trans (hC.mono hB.size)
        replace M := M.keep hC
        clear p0 p1 hC
        by_cases hz : p = 0
        · subst hz
          have u1 : t + 1 ≤ T := by omega
          clear t3 t4
          go_wp2_with fail
          go_roundw
          case rel => exact ⟨t + 1, U, by go_num, rfl, by omega, u1, l3, l4, M, hB⟩
          case measure => simp [intOf]; omega
        · have u1 : T ≤ t := by
            have a : ¬ t < T := fun h => hz (t3 (by omega) h)
            omega
          have hd0 : decide (p = 0) = false := by simp [hz]
          clear t3 t4
          go_wp2_with fail
          go_roundw
          case rel => exact ⟨L, t, rfl, rfl, l1, l2, u1, by omega, M, hB⟩
          case measure => simp [intOf]; omega
      · obtain rfl : L = T := by omega
        go_wp2_with fail
        go_ret2
        exact ⟨(show _ = Ending.returned (.tuple #[.int .i64 L, .int .i64 0]) from rfl).trans (by rw [HV.out]), hB⟩
    · have HV := hid (fmR_out hv (by rw [← hn]; exact hw))
      obtain ⟨p0, p1⟩ := M.cells
      clear hv hn hm
      go_enter Try.func17, Try.ntmps17
      go_wp2_with fail
      with_reducible refine (HVM.out _ M).mono ?_
      rintro e W1 ⟨rfl, hC⟩
      replace hB := hB.trans (hC.mono hB.size)
      replace M := M.keep hC
      clear p0 p1 hC
      obtain ⟨p0, p1⟩ := M.cells
      go_wp2_with fail
      with_reducible refine (hasWheel_no _ _ _ _ hw _).mono ?_
      rintro e W2 ⟨rfl, rfl⟩
      go_wp2_with fail
      go_ret2
      exact ⟨(show _ = Ending.returned (.tuple #[.int .i64 0, .int .i64 2]) from rfl).trans (by rw [HV.out]), hB⟩
end Go.Proofs.Ytkgldcjbaghapaa
