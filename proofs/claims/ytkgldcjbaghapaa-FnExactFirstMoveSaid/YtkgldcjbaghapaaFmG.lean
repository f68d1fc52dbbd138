/- FirstMove: the model's. -/
import Derived.Test.YtkgldcjbaghapaaFmF
namespace Go.Proofs.Ytkgldcjbaghapaa
open Go.RowKit
set_option maxHeartbeats 1000000 in
theorem l02Wheel_any (B b n cap g m cap' : Nat) (zs : List Int) (js : List (Int × Int)) (y : Int) (w : World) (hM : MoAt w B b n cap g m cap' zs js) (hn : n = zs.length) (hm : m = js.length) (hb : ∀ j, j < js.length → (-128 ≤ jk js j ∧ jk js j ≤ 127) ∧ (-32768 ≤ jf js j ∧ jf js j ≤ 32767)) :
    Calls Try.prog 40 #[.pointer (some ⟨B, 0, none⟩), .int .i64 y] w fun e w' => e = .returned (.int .i64 (fmR zs js y).2) ∧ Below w.heap.size w w' := by
  have HK := hid (l02Ok_any B b n cap g m cap' zs js w hM.1 hM.2.1 hM.2.2 hn hm hb)
  cases hv : okM zs js with
  | false =>
    rw [hv] at HK
    have HV := hid (fmR_no (y := y) hv)
    clear hv hn hm hM hb
    go_enter Try.func40, Try.ntmps40
    go_wp2_with fail
    with_reducible refine HK.out.mono ?_
    rintro e W1 ⟨rfl, hC⟩
    go_wp2_with fail
    go_ret
    exact ⟨(show _ = Ending.returned (.int .i64 1) from rfl).trans (by rw [HV.out]), hC⟩
  | true =>
    rw [hv] at HK
    obtain ⟨hv1, _, _⟩ := okM_out hv
    have h8 := (okL_in hv1).1
    by_cases hw : 0 ≤ y ∧ y < n
    · obtain ⟨k, rfl⟩ : ∃ k : Nat, y = k := ⟨y.toNat, by omega⟩
      have HV := hid (fmR_yes (k := k) hv (by omega))
      have HI := hid (fun W => inr_yes (k : Int) 0 ((n : Int) - 1) W (by omega))
      have hn8 : n ≤ 8 := by omega
      clear hv hn hm hb hv1 h8
      go_enter Try.func40, Try.ntmps40
      go_wp2_with fail
      with_reducible refine HK.out.mono ?_
      rintro e W1 ⟨rfl, hC⟩
      obtain ⟨p0, p1⟩ := (hM.keep hC).cells
      clear hM HK
      have wn : IntKind.i64.wrap ((n : Int) - 1) = (n : Int) - 1 := IntWalk.i64_in _ (by omega)
      go_wp2_with (go_at_call 46; refine (HI.out _).mono ?_; rintro e w' ⟨rfl, rfl⟩)
      go_ret
      exact ⟨(show _ = Ending.returned (.int .i64 0) from rfl).trans (by rw [HV.out]), hC⟩
    · have HV := hid (fmR_out hv (by rw [← hn]; exact hw))
      have HI := hid (fun W => inr_no y 0 ((n : Int) - 1) W (by omega))
      have hn8 : n ≤ 8 := by omega
      clear hv hn hm hb hv1 h8
      go_enter Try.func40, Try.ntmps40
      go_wp2_with fail
      with_reducible refine HK.out.mono ?_
      rintro e W1 ⟨rfl, hC⟩
      obtain ⟨p0, p1⟩ := (hM.keep hC).cells
      clear hM HK
      have wn : IntKind.i64.wrap ((n : Int) - 1) = (n : Int) - 1 := IntWalk.i64_in _ (by omega)
      go_wp2_with (go_at_call 46; refine (HI.out _).mono ?_; rintro e w' ⟨rfl, rfl⟩)
      go_ret
      exact ⟨(show _ = Ending.returned (.int .i64 2) from rfl).trans (by rw [HV.out]), hC⟩
set_option maxRecDepth 100000 in
set_option maxHeartbeats 1000000 in
theorem specFirstMove_any (b n cap g m cap' : Nat) (zs : List Int) (js : List (Int × Int)) (y : Int) (w : World) (hS : Stk w b zs) (hJ : Jst w g js) (hn : n = zs.length) (hm : m = js.length) (hcap : n ≤ cap) (hb : ∀ j, j < js.length → (-128 ≤ jk js j ∧ jk js j ≤ 127) ∧ (-32768 ≤ jf js j ∧ jf js j ≤ 32767)) :
    Calls Try.prog 16 #[.agg #[.slice (some ⟨b, 0, none⟩) n cap, .slice (some ⟨g, 0, none⟩) m cap'], .int .i64 y] w fun e w' => e = .returned (.tuple #[.int .i64 (fmR zs js y).1, .int .i64 (fmR zs js y).2]) ∧ Below w.heap.size w w' := by
  have hB : Below w.heap.size w (w.alloc (.cells #[.slice (some ⟨b, 0, none⟩) n cap, .slice (some ⟨g, 0, none⟩) m cap'] 35)) := (Below.refl _ _).alloc (Nat.le_refl _) _
  have M := MoAt.new w b n cap g m cap' zs js hS hJ
  have hbl := hS.1
  have hgl := hJ.1
  have HWH := hid (fun (W : World) (M : MoAt W w.heap.size b n cap g m cap' zs js) => l02Wheel_any w.heap.size b n cap g m cap' zs js y W M hn hm hb)
  clear hS hJ hb
  by_cases hw : okM zs js = true ∧ 0 ≤ y ∧ y < n
  · obtain ⟨hv, hw⟩ := hw
    obtain ⟨k, rfl⟩ : ∃ k : Nat, y = k := ⟨y.toNat, by omega⟩
    obtain ⟨hv1, hl, hjs⟩ := okM_out hv
    obtain ⟨h1, h8, hin, _, _⟩ := okL_out hv1
    have hk : k < zs.length := by omega
    have hk8 : k < 8 := by omega
    obtain ⟨f1, f2, f3, f4⟩ := fm_spec hv k hk
    have sb := spanL_bd hv1
    have s1 := (szL_bd zs k (by omega) (fun j hj => hin j (by omega))).1
    have s2 := szL_le hin k (by omega)
    have s3 : szL (zs.take k) * 1000 ≤ spanL zs := by unfold spanL; omega
    have HV := hid (fmR_yes hv hk)
    have HAT := hid (fun t => parts_at zs js t k hk8 hk)

    rw [fmR_yes hv hk] at HWH
    have HPT := hid (fun (t : Int) (W : World) (M : MoAt W w.heap.size b n cap g m cap' zs js) (ht : turnOk zs t = true) => l02Parts_any w.heap.size b n cap g m cap' zs js t W M hn hm hcap hv ht)
    have HTO := hid (fun (t : Int) (h1 : 0 ≤ t) (h2 : t < szL (zs.take k) * 1000) => (show turnOk zs t = true by simp [turnOk]; omega))
    have HSZ := hid (fun (j : Nat) (hj : j < k) => szL_take zs j (by omega))
    have HSL := hid (fun (j : Nat) (hj : j ≤ k) => szL_le hin j (by omega))
    have HSB := hid (fun (j : Nat) (hj : j ≤ k) => (szL_bd zs j (by omega) (fun i hi => hin i (by omega))).1)
    have HZB := hid (fun (j : Nat) (hj : j < k) => hin j (by omega))
    have hall : szL zs ≤ 1000000000000 := by unfold spanL at sb; omega
    have HNZ := hid hn
    have hn8 : n ≤ 8 := by omega
    have hkn : k < n := by omega
    obtain ⟨T, hT⟩ : ∃ T, T = fmT zs js k := ⟨_, rfl⟩
    rw [← hT] at f1 f2 f3 f4 HV
    have F3 := hid f3
    have F4 := hid f4
    have sP : szL (zs.take k) * 1000 ≤ 1000000000000000 := by omega
    clear hv hn hm hv1 hl hjs h1 h8 hin hT s2 s3 sb f3 f4 hcap hw
    go_enter Try.func16, Try.ntmps16
    go_wp2_with fail
    with_reducible refine (HWH.out _ M).mono ?_
    rintro e W1 ⟨rfl, hC⟩
    replace hB := hB.trans (hC.mono hB.size)
    replace M := M.keep hC
    clear hC HWH
    obtain ⟨p0, p1⟩ := M.cells
    have HC := hid M.2.1.2.1
    go_wp2_with fail
    go_loop [8, 9] (fun h i => ∃ j : Nat, j ≤ k ∧ i = .int .i64 j ∧ h = .int .i64 (szL (zs.take j) * 1000)) (fun _ i => k - (intOf i).toNat)
    case atStart => exact ⟨0, Nat.zero_le _, rfl, by simp [szL]⟩
    case round =>
    obtain ⟨j, hj, rfl, rfl⟩ := hrel
    by_cases hlt : j < k
    · have cz := HC.out j (by have := HNZ.out; omega)
      have ez := HSZ.out j hlt
      have bz := HZB.out j hlt
      have b1 := HSB.out j (by omega)
      have b2 := HSB.out (j + 1) (by omega)
      have b3 := HSL.out (j + 1) (by omega)
      obtain ⟨z, hz⟩ : ∃ z, z = zs[j]?.getD 0 := ⟨_, rfl⟩
      obtain ⟨s, hs⟩ : ∃ s, s = szL (zs.take j) := ⟨_, rfl⟩
      obtain ⟨s', hs'⟩ : ∃ s, s = szL (zs.take (j + 1)) := ⟨_, rfl⟩
      rw [← hz] at cz ez bz
      rw [← hs] at ez b1 ⊢
      rw [← hs'] at ez b2 b3
      have em : s * 1000 * z = s' * 1000 := by rw [ez, Int.mul_right_comm]
      obtain ⟨a, ha⟩ : ∃ a, a = s * 1000 := ⟨_, rfl⟩
      rw [← ha] at em ⊢
      have wz : IntKind.i64.wrap z = z := IntWalk.i64_in z (by omega)
      have wa : IntKind.i64.wrap (s' * 1000) = s' * 1000 := IntWalk.i64_in _ (by omega)
      have HS' := hid hs'
      have kn : (j : Int) < (n : Int) := by omega
      have jk0 : (j : Int) < (k : Int) := by omega
      clear hz hs hs' ez ha b1 b2 b3
      go_wp2_with fail
      go_round
      case rel => exact ⟨j + 1, by omega, by go_num, by rw [← HS'.out]⟩
      case measure => simp [intOf]; omega
    · obtain rfl : j = k := by omega
      clear HC HSZ HSL HSB HZB p0 p1
      obtain ⟨s, hs⟩ : ∃ s, s = szL (zs.take j) := ⟨_, rfl⟩
      rw [← hs] at s1 f2 sP HTO F4 ⊢
      clear hs
      go_wp2_with fail
      go_loopw [7, 8] (fun lo hi wr => ∃ L U : Int, lo = .int .i64 L ∧ hi = .int .i64 U ∧ 0 ≤ L ∧ L < T ∧ T ≤ U ∧ U ≤ s * 1000 ∧ MoAt wr w.heap.size b n cap g m cap' zs js ∧ Below w.heap.size w wr) (fun lo hi _ => (intOf hi - intOf lo).toNat)
      case atStart => exact ⟨0, s * 1000, rfl, rfl, Int.le_refl _, by omega, f2, Int.le_refl _, M, hB⟩
      case round =>
      clear M hB
      obtain ⟨L, U, rfl, rfl, l1, l2, l3, l4, M, hB⟩ := hrel
      by_cases hlt : 1 < U - L
      · have mb : L < (L + U) / 2 ∧ (L + U) / 2 < U := by omega
        obtain ⟨t, ht⟩ : ∃ t, t = (L + U) / 2 := ⟨_, rfl⟩
        have e1 : (L + U).tdiv 2 = t := by rw [ht]; exact Int.tdiv_eq_ediv_of_nonneg (by omega)
        rw [← ht] at mb
        clear ht
        have hpx := fun (W : World) (M : MoAt W w.heap.size b n cap g m cap' zs js) => HPT.out t W M (HTO.out t (by omega) (by omega))
        have hat := HAT.out t
        obtain ⟨e0, he0⟩ : ∃ x, x = dg (partsL zs js t) 0 := ⟨_, rfl⟩
        obtain ⟨e1, he1⟩ : ∃ x, x = dg (partsL zs js t) 1 := ⟨_, rfl⟩
        obtain ⟨e2, he2⟩ : ∃ x, x = dg (partsL zs js t) 2 := ⟨_, rfl⟩
        obtain ⟨e3, he3⟩ : ∃ x, x = dg (partsL zs js t) 3 := ⟨_, rfl⟩
        obtain ⟨e4, he4⟩ : ∃ x, x = dg (partsL zs js t) 4 := ⟨_, rfl⟩
        obtain ⟨e5, he5⟩ : ∃ x, x = dg (partsL zs js t) 5 := ⟨_, rfl⟩
        obtain ⟨e6, he6⟩ : ∃ x, x = dg (partsL zs js t) 6 := ⟨_, rfl⟩
        obtain ⟨e7, he7⟩ : ∃ x, x = dg (partsL zs js t) 7 := ⟨_, rfl⟩
        simp only [← he0, ← he1, ← he2, ← he3, ← he4, ← he5, ← he6, ← he7] at hpx hat
        have HPX := hid hpx
        have t3 := F3.out t
        have t4 := F4.out t
        obtain ⟨p, hp⟩ : ∃ p, p = pL zs js t j := ⟨_, rfl⟩
        rw [← hp] at t3 t4 hat
        clear he0 he1 he2 he3 he4 he5 he6 he7 hpx hp
        go_wp2_with fail
        with_reducible refine (HPX.out _ M).mono ?_
        rintro e W4 ⟨rfl, hC⟩
        replace hB := hB.trans (hC.mono hB.size)
        replace M := M.keep hC
        have bA : Below W4.heap.size W4 (W4.alloc (.cells #[.int .i64 e0, .int .i64 e1, .int .i64 e2, .int .i64 e3, .int .i64 e4, .int .i64 e5, .int .i64 e6, .int .i64 e7] 37)) := (Below.refl _ _).alloc (Nat.le_refl _) _
        have cA := ((Row.new W4 37 [.int .i64 e0, .int .i64 e1, .int .i64 e2, .int .i64 e3, .int .i64 e4, .int .i64 e5, .int .i64 e6, .int .i64 e7]).cell j).trans (dp_at e0 e1 e2 e3 e4 e5 e6 e7 j hk8)
        rw [hat] at cA
        replace hB := hid (hB.trans (bA.mono hB.size))
        replace M := hid (M.keep bA)
        have hkj : (j : Int) < 8 := by omega
        clear hC bA
        by_cases hz : 0 < p
        · have u1 : T ≤ t := by
            have a : ¬ t < T := fun h => by have := t3 (by omega) h; omega
            omega
          clear t3 t4
          go_wp2_with fail
          go_roundw
          case rel => exact ⟨L, t, rfl, rfl, l1, l2, u1, by omega, M.out, hB.out⟩
          case measure => simp [intOf]; omega
        · have u1 : t < T := by
            have a : ¬ T ≤ t := fun h => hz (t4 h (by omega))
            omega
          clear t3 t4
          go_wp2_with fail
          go_roundw
          case rel => exact ⟨t, U, rfl, rfl, by omega, u1, l3, l4, M.out, hB.out⟩
          case measure => simp [intOf]; omega
      · obtain rfl : U = T := by omega
        go_wp2_with fail
        go_ret2
        exact ⟨(show _ = Ending.returned (.tuple #[.int .i64 U, .int .i64 0]) from rfl).trans (by rw [HV.out]), hB⟩
  · have hr : (fmR zs js y).1 = 0 ∧ ((fmR zs js y).2 = 1 ∨ (fmR zs js y).2 = 2) := by
      cases hv : okM zs js with
      | false => rw [fmR_no hv]; simp
      | true => rw [fmR_out hv (by rw [← hn]; exact fun h => hw ⟨hv, h⟩)]; simp
    obtain ⟨c, hc⟩ : ∃ c, c = (fmR zs js y).2 := ⟨_, rfl⟩
    rw [← hc] at hr HWH
    have HC0 := hid hc
    have HR0 := hid hr.1
    have hc0 : c ≠ 0 := by omega
    have hc1 : 1 ≤ c ∧ c ≤ 2 := by omega
    clear hc hr hn hm hw hcap
    go_enter Try.func16, Try.ntmps16
    go_wp2_with fail
    with_reducible refine (HWH.out _ M).mono ?_
    rintro e W1 ⟨rfl, hC⟩
    replace hB := hB.trans (hC.mono hB.size)
    clear hC HWH M
    go_wp2_with fail
    go_ret2
    exact ⟨(show _ = Ending.returned (.tuple #[.int .i64 0, .int .i64 c]) from rfl).trans (by rw [HR0.out, ← HC0.out]), hB⟩
end Go.Proofs.Ytkgldcjbaghapaa
