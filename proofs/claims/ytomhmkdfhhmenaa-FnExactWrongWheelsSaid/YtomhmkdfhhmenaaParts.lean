/- The parts of all wheels: the program's. -/
import Derived.Test.YtomhmkdfhhmenaaPartsM
namespace Go.Proofs.Ytomhmkdfhhmenaa
open Go.RowKit

set_option maxRecDepth 100000 in
set_option maxHeartbeats 8000000 in
theorem moParts_any (b n cap g m cap' : Nat) (zs : List Int) (js : List (Int × Int)) (turn : Int) (w : World) (hS : Stk w b zs) (hJ : Jst w g js) (hn : n = zs.length) (hm : m = js.length) (hv : okM zs js = true) (ht : 0 ≤ turn ∧ turn ≤ 1000000000000000) :
    Calls Try.prog 43 #[.agg #[.slice (some ⟨b, 0, none⟩) n cap, .slice (some ⟨g, 0, none⟩) m cap'], .int .i64 turn] w fun e w' => e = .returned (.agg #[.int .i64 (dg (partsL zs js turn) 0), .int .i64 (dg (partsL zs js turn) 1), .int .i64 (dg (partsL zs js turn) 2), .int .i64 (dg (partsL zs js turn) 3), .int .i64 (dg (partsL zs js turn) 4), .int .i64 (dg (partsL zs js turn) 5), .int .i64 (dg (partsL zs js turn) 6), .int .i64 (dg (partsL zs js turn) 7)]) ∧ Below w.heap.size w w' := by
  have bel : Below w.heap.size w ((w.alloc (.cells #[.slice (some ⟨b, 0, none⟩) n cap, .slice (some ⟨g, 0, none⟩) m cap'] 33)).alloc (.cells #[.int .i64 0, .int .i64 0, .int .i64 0, .int .i64 0, .int .i64 0, .int .i64 0, .int .i64 0, .int .i64 0] 70)) := ((Below.refl _ w).alloc (Nat.le_refl _) _).alloc (by simp) _
  have bel1 : Below (w.alloc (.cells #[.slice (some ⟨b, 0, none⟩) n cap, .slice (some ⟨g, 0, none⟩) m cap'] 33)).heap.size (w.alloc (.cells #[.slice (some ⟨b, 0, none⟩) n cap, .slice (some ⟨g, 0, none⟩) m cap'] 33)) ((w.alloc (.cells #[.slice (some ⟨b, 0, none⟩) n cap, .slice (some ⟨g, 0, none⟩) m cap'] 33)).alloc (.cells #[.int .i64 0, .int .i64 0, .int .i64 0, .int .i64 0, .int .i64 0, .int .i64 0, .int .i64 0, .int .i64 0] 70)) := (Below.refl _ _).alloc (Nat.le_refl _) _
  have M0 := hid ((MoAt.new w b n cap g m cap' zs js hS hJ).keep bel1)
  have rR' := Row.new (w.alloc (.cells #[.slice (some ⟨b, 0, none⟩) n cap, .slice (some ⟨g, 0, none⟩) m cap'] 33)) 70 [.int .i64 0, .int .i64 0, .int .i64 0, .int .i64 0, .int .i64 0, .int .i64 0, .int .i64 0, .int .i64 0]
  simp only [World.size_alloc] at rR'
  have rR := hid rR'
  obtain ⟨hv1, hl, hj⟩ := okM_out hv
  obtain ⟨h1, h8, hin, _, _⟩ := okL_out hv1
  have HD0 := hid (moRight_any b n cap g m cap' zs js turn ((w.alloc (.cells #[.slice (some ⟨b, 0, none⟩) n cap, .slice (some ⟨g, 0, none⟩) m cap'] 33)).alloc (.cells #[.int .i64 0, .int .i64 0, .int .i64 0, .int .i64 0, .int .i64 0, .int .i64 0, .int .i64 0, .int .i64 0] 70)) (hS.below bel hS.1) hn hv1 ht)
  have hJJ := fun j hj' => okJs_out hj j hj'
  have hpb := hid (fun k hk => pL_bd (turn := turn) hin hJJ hl k hk)
  have hjj := hid hJJ
  have hbl := hS.1
  have hgl := hJ.1
  have HJC := hid hJ.2.1
  have HSC := hid hS.2.1
  have hEQ : ∀ k, k < zs.length → dg (dgL zs (turn / 1000)) k = dgt zs turn k := fun k hk => by
    unfold dg
    rw [dgL_get zs _ k (by omega), if_pos hk]; rfl
  have hDB0 : ∀ k, k < 8 → 0 ≤ dg (dgL zs (turn / 1000)) k ∧ dg (dgL zs (turn / 1000)) k ≤ 99 := fun k hk => dgL_bd zs (turn / 1000) hin k hk
  obtain ⟨e0, he0⟩ : ∃ x, x = dg (dgL zs (turn / 1000)) 0 := ⟨_, rfl⟩
  obtain ⟨e1, he1⟩ : ∃ x, x = dg (dgL zs (turn / 1000)) 1 := ⟨_, rfl⟩
  obtain ⟨e2, he2⟩ : ∃ x, x = dg (dgL zs (turn / 1000)) 2 := ⟨_, rfl⟩
  obtain ⟨e3, he3⟩ : ∃ x, x = dg (dgL zs (turn / 1000)) 3 := ⟨_, rfl⟩
  obtain ⟨e4, he4⟩ : ∃ x, x = dg (dgL zs (turn / 1000)) 4 := ⟨_, rfl⟩
  obtain ⟨e5, he5⟩ : ∃ x, x = dg (dgL zs (turn / 1000)) 5 := ⟨_, rfl⟩
  obtain ⟨e6, he6⟩ : ∃ x, x = dg (dgL zs (turn / 1000)) 6 := ⟨_, rfl⟩
  obtain ⟨e7, he7⟩ : ∃ x, x = dg (dgL zs (turn / 1000)) 7 := ⟨_, rfl⟩
  have hEE : ∀ k, k < zs.length → ([e0, e1, e2, e3, e4, e5, e6, e7] : List Int)[k]?.getD 0 = dgt zs turn k := fun k hk => by
    rw [← hEQ k hk]
    have h : k = 0 ∨ k = 1 ∨ k = 2 ∨ k = 3 ∨ k = 4 ∨ k = 5 ∨ k = 6 ∨ k = 7 := by omega
    rcases h with rfl | rfl | rfl | rfl | rfl | rfl | rfl | rfl
    · exact he0
    · exact he1
    · exact he2
    · exact he3
    · exact he4
    · exact he5
    · exact he6
    · exact he7
  have hDB : ∀ k, k < 8 → 0 ≤ ([e0, e1, e2, e3, e4, e5, e6, e7] : List Int)[k]?.getD 0 ∧ ([e0, e1, e2, e3, e4, e5, e6, e7] : List Int)[k]?.getD 0 ≤ 99 := fun k hk => by
    have := hDB0 k hk
    have h : k = 0 ∨ k = 1 ∨ k = 2 ∨ k = 3 ∨ k = 4 ∨ k = 5 ∨ k = 6 ∨ k = 7 := by omega
    rcases h with rfl | rfl | rfl | rfl | rfl | rfl | rfl | rfl
    · rw [← he0] at this; exact this
    · rw [← he1] at this; exact this
    · rw [← he2] at this; exact this
    · rw [← he3] at this; exact this
    · rw [← he4] at this; exact this
    · rw [← he5] at this; exact this
    · rw [← he6] at this; exact this
    · rw [← he7] at this; exact this
  rw [← he0, ← he1, ← he2, ← he3, ← he4, ← he5, ← he6, ← he7] at HD0
  have p0v := hid (show e0 * 1000 + turn % 1000 = pL zs js turn 0 by have := hEE 0 (by omega); simp at this; rw [this]; rfl)
  have e0b := hDB 0 (by omega)
  simp only [List.getElem?_cons_zero, Option.getD_some] at e0b
  have hEE := hid hEE
  have hDB := hid hDB
  have N := hid hn
  have MM := hid hm
  have HL := hid hl
  have HN8 := hid h8
  have hn8 : n ≤ 8 := by omega
  have hn1 : 1 ≤ n := by omega
  have hmn : m + 1 ≤ n := by omega
  have HIN := hid hin
  have tm : turn.tmod 1000 = turn % 1000 := Int.tmod_eq_emod_of_nonneg ht.1
  have r0 := Int.emod_nonneg turn (show (1000 : Int) ≠ 0 by decide)
  have r1 := Int.emod_lt_of_pos turn (show (0 : Int) < 1000 by decide)
  obtain ⟨ht1, ht2⟩ := ht
  clear hS hJ hn hm hv hv1 hl hj h8 hin hJJ hEQ hDB0 rR' h1 bel1 he0 he1 he2 he3 he4 he5 he6 he7
  go_enter Try.func43, Try.ntmps43
  go_wp2_with fail
  refine HD0.out.mono ?_
  rintro e w1 ⟨rfl, hB1⟩
  have hz1 := hB1.size
  have M1 := hid (M0.out.keep hB1)
  simp only [World.size_alloc] at hB1 hz1
  have bx : Below w1.heap.size w1 ((w1.alloc (.cells #[.int .u8 e0, .int .u8 e1, .int .u8 e2, .int .u8 e3, .int .u8 e4, .int .u8 e5, .int .u8 e6, .int .u8 e7] 65)).alloc (.cells #[.int .i64 (pL zs js turn 0), .int .i64 0, .int .i64 0, .int .i64 0, .int .i64 0, .int .i64 0, .int .i64 0, .int .i64 0] 70)) := ((Below.refl _ _).alloc (Nat.le_refl _) _).alloc (by simp) _
  have hDr := hid ((Row.new w1 65 [.int .u8 e0, .int .u8 e1, .int .u8 e2, .int .u8 e3, .int .u8 e4, .int .u8 e5, .int .u8 e6, .int .u8 e7]).alloc (.cells #[.int .i64 (pL zs js turn 0), .int .i64 0, .int .i64 0, .int .i64 0, .int .i64 0, .int .i64 0, .int .i64 0, .int .i64 0] 70))
  have hPr' := Row.new (w1.alloc (.cells #[.int .u8 e0, .int .u8 e1, .int .u8 e2, .int .u8 e3, .int .u8 e4, .int .u8 e5, .int .u8 e6, .int .u8 e7] 65)) 70 (pto zs js turn 0)
  simp only [World.size_alloc] at hPr'
  have hPr := hid hPr'
  have hZr := hid ((rR.out.below hB1 (by omega)).below bx (by omega))
  have hMr := hid (M1.out.keep bx)
  have hBr := hid (bel.trans ((hB1.mono (by omega)).trans (bx.mono (by omega))))
  clear hPr'
  obtain ⟨c0, c1⟩ := M1.out.cells
  have l1 : w.heap.size < w1.heap.size := by omega
  have l2 : w.heap.size < w1.heap.size + 1 := by omega
  have l3 : ¬ w.heap.size = w1.heap.size := by omega
  have l4 : ¬ w.heap.size = w1.heap.size + 1 := by omega
  go_wp2_with fail
  clear l1 l2 l3 l4
  rw [p0v.out]
  go_loopw [24] (fun i wr => ∃ k : Nat, k ≤ m ∧ i = .int .i64 k ∧ Row wr (w1.heap.size + 1) 70 (pto zs js turn k) ∧ Row wr w1.heap.size 65 [.int .u8 e0, .int .u8 e1, .int .u8 e2, .int .u8 e3, .int .u8 e4, .int .u8 e5, .int .u8 e6, .int .u8 e7] ∧ Row wr (w.heap.size + 1) 70 [.int .i64 0, .int .i64 0, .int .i64 0, .int .i64 0, .int .i64 0, .int .i64 0, .int .i64 0, .int .i64 0] ∧ MoAt wr w.heap.size b n cap g m cap' zs js ∧ Below w.heap.size w wr) (fun i _ => m - (intOf i).toNat)
  case atStart => exact ⟨0, Nat.zero_le _, rfl, hPr.out, hDr.out, hZr.out, hMr.out, hBr.out⟩
  case round =>
    obtain ⟨k, hk, rfl, hP, hD, hZ, hM, hB⟩ := hrel
    clear c0 c1
    have HP := hid hP; have HD := hid hD; have HZ := hid hZ; have HM := hid hM
    have hlp := hP.lt; have hld := hD.lt
    have hzw := hB.size
    clear hP hD hZ hM
    by_cases hlt : k < m
    · have hkj : k < js.length := by rw [← MM.out]; exact hlt
      have hkz : k < zs.length := by have := HL.out; omega
      have hk1 : k + 1 < zs.length := by have := HL.out; omega
      have g0 := (HM.out.2.2.2.1 k hkj).1
      have g1 := (HM.out.2.2.2.1 k hkj).2
      have hgw := HM.out.2.2.1
      have hbw := HM.out.2.1.1
      have cP := (HP.out.cell k).trans (pto_get zs js turn k (by omega))
      have cM := HM.out.cells.1
      have cZ := HM.out.2.1.2.1 k hkz
      have zb := HIN.out k hkz
      have pb := hpb.out k hkz
      have oj := hjj.out k hkj
      have hEE := hEE.out
      have hDB := hDB.out
      have h8k : k + 1 < 8 := by omega
      obtain ⟨q, hq⟩ : ∃ q, q = pL zs js turn k := ⟨_, rfl⟩
      obtain ⟨z, hzz⟩ : ∃ z, z = zs[k]?.getD 0 := ⟨_, rfl⟩
      obtain ⟨kk, hkk⟩ : ∃ x, x = jk js k := ⟨_, rfl⟩
      obtain ⟨f, hff⟩ : ∃ x, x = jf js k := ⟨_, rfl⟩
      rw [← hq] at cP pb
      rw [← hzz] at cZ zb pb
      rw [← hkk] at g0 oj
      rw [← hff] at g1 oj
      have HQ := hid (show beyJ (jk js k) (jf js k) (pL zs js turn k) (zs[k]?.getD 0) = beyJ kk f q z by rw [← hq, ← hzz, ← hkk, ← hff])
      have bbd := beyJ_bd oj zb pb
      have HQ0 := hid hq; have HZZ := hid hzz; have HF := hid hff; have HKK := hid hkk
      clear hq hzz hff hkk
      obtain ⟨bb, hbb⟩ : ∃ x, x = beyJ kk f q z := ⟨_, rfl⟩
      rw [← hbb] at bbd
      rcases okJ_out oj with ⟨rfl, rfl⟩ | ⟨rfl, f0, f1⟩
      · clear oj
        have bA : Below w.heap.size w (wr.alloc (.cells #[.int .i8 0, .int .i16 0] 75)) := hB.alloc hzw _
        have zA : (wr.alloc (.cells #[.int .i8 0, .int .i16 0] 75)).heap.size = wr.heap.size + 1 := by simp
        have j0 : (wr.alloc (.cells #[.int .i8 0, .int .i16 0] 75)).cell? ⟨wr.heap.size, 0, none⟩ = some (.int .i8 0) := (Row.new wr 75 [.int .i8 0, .int .i16 0]).cell 0
        have j1 : (wr.alloc (.cells #[.int .i8 0, .int .i16 0] 75)).cell? ⟨wr.heap.size, 1, none⟩ = some (.int .i16 0) := (Row.new wr 75 [.int .i8 0, .int .i16 0]).cell 1
        have bR : Below wr.heap.size wr (wr.alloc (.cells #[.int .i8 0, .int .i16 0] 75)) := (Below.refl _ _).alloc (Nat.le_refl _) _
        have a2 := (bR.cell (p := ⟨w1.heap.size + 1, k, none⟩) (by show w1.heap.size + 1 < _; omega)).trans cP
        have a3 := (bR.cell (p := ⟨w.heap.size, 0, none⟩) (by show w.heap.size < _; omega)).trans cM
        have a4 := (bR.cell (p := ⟨b, k, none⟩) (by show b < _; omega)).trans cZ
        have hm : ∀ w, (method 225 103 (.agg #[]) "loop.example/g01278/impl.beyond").run Try.prog w = .ok (79, .agg #[]) w := fun _ => by kernel_rfl
        have hna : ∀ w, (nilAhead 225 103 (.agg #[]) "loop.example/g01278/impl.beyond").run Try.prog w = .ok (some false) w := fun _ => by kernel_rfl
        have HCY := hid (fun w => carry_even 0 w)
        have HBY := hid (fun w => beyond_even q z w (by omega) zb)
        rw [beyJ_even] at hbb
        rw [← hbb] at HBY
        have HBB := hid hbb
        have k0 : (0 : Int) ≤ (k : Int) := by omega
        have k8 : (k : Int) < 8 := by omega
        have kn : (k : Int) < (n : Int) := by have := N.out; omega
        have wz : IntKind.i64.wrap z = z := IntWalk.i64_in z (by omega)
        clear hbb cP cM cZ
        go_wp2_with fail
        go_region_held3 (fun w' => w'.cell? ⟨wr.heap.size, 0, none⟩ = some (.int .i8 0) ∧ w'.cell? ⟨wr.heap.size, 1, none⟩ = some (.int .i16 0) ∧ w'.cell? ⟨w1.heap.size + 1, k, none⟩ = some (.int .i64 q) ∧ w'.cell? ⟨w.heap.size, 0, none⟩ = some (.slice (some ⟨b, 0, none⟩) n cap) ∧ w'.cell? ⟨b, k, none⟩ = some (.int .u8 z)) (first | with_reducible exact hq2 | with_reducible exact hq1 | exact ⟨j0, j1, a2, a3, a4⟩) ((first | (go_at_call 54; have hX := HCY.out (wr.alloc (.cells #[.int .i8 0, .int .i16 0] 75)).drew; refine hX.mono ?_; clear hX; rintro e w2 ⟨rfl, hB2⟩; simp only [World.size_drew, World.size_alloc] at hB2; have hz2 := hB2.size; simp only [World.size_drew, World.size_alloc] at hz2; have hq1 := And.intro ((hB2.cell (p := ⟨wr.heap.size, 0, none⟩) (by show wr.heap.size < _; omega)).trans j0) (And.intro ((hB2.cell (p := ⟨wr.heap.size, 1, none⟩) (by show wr.heap.size < _; omega)).trans j1) (And.intro ((hB2.cell (p := ⟨w1.heap.size + 1, k, none⟩) (by show w1.heap.size + 1 < _; omega)).trans a2) (And.intro ((hB2.cell (p := ⟨w.heap.size, 0, none⟩) (by show w.heap.size < _; omega)).trans a3) ((hB2.cell (p := ⟨b, k, none⟩) (by show b < _; omega)).trans a4))))) | (go_at_call 79; (try rw [wz]); have hX := HBY.out w2; refine hX.mono ?_; clear hX; rintro e w3 ⟨rfl, hB3⟩; have hz3 := hB3.size; have hq2 := And.intro ((hB3.cell (p := ⟨wr.heap.size, 0, none⟩) (by show wr.heap.size < _; omega)).trans hq1.1) (And.intro ((hB3.cell (p := ⟨wr.heap.size, 1, none⟩) (by show wr.heap.size < _; omega)).trans hq1.2.1) (And.intro ((hB3.cell (p := ⟨w1.heap.size + 1, k, none⟩) (by show w1.heap.size + 1 < _; omega)).trans hq1.2.2.1) (And.intro ((hB3.cell (p := ⟨w.heap.size, 0, none⟩) (by show w.heap.size < _; omega)).trans hq1.2.2.2.1) ((hB3.cell (p := ⟨b, k, none⟩) (by show b < _; omega)).trans hq1.2.2.2.2)))))))
        have b3 : Below (wr.heap.size + 1) (wr.alloc (.cells #[.int .i8 0, .int .i16 0] 75)) w3 := (Below.refl _ _).drew.trans (hB2.trans (hB3.mono (by omega)))
        have rP3 := (HP.out.below bR (by omega)).below b3 (by omega)
        have rD3 := hid ((HD.out.below bR (by omega)).below b3 (by omega))
        have rZ3 := hid ((HZ.out.below bR (by omega)).below b3 (by omega))
        have M3 := hid ((HM.out.below bR (by omega) (by omega) (by omega)).below b3 (by omega) (by omega) (by omega))
        have cD := (rD3.out.cell (k + 1)).trans (oct_get e0 e1 e2 e3 e4 e5 e6 e7 (k + 1) (by omega))
        have fP := rP3.frozen (k + 1)
        obtain ⟨old, hold⟩ : ∃ v, w3.cell? ⟨w1.heap.size + 1, k + 1, none⟩ = some v := ⟨_, (rP3.cell (k + 1)).trans (List.getElem?_eq_getElem (by rw [pto_len]; omega))⟩
        have r4 := rP3.set (k + 1) (.int .i64 (pL zs js turn (k + 1)))
        rw [pto_set zs js turn k (by omega)] at r4
        have R4 := hid r4
        have B4 := hid ((bA.trans (b3.mono (by omega))).setCell (p := ⟨w1.heap.size + 1, k + 1, none⟩) (by show w.heap.size ≤ w1.heap.size + 1; omega) (.int .i64 (pL zs js turn (k + 1))))
        have D4 := hid (rD3.out.other (a := ⟨w1.heap.size + 1, k + 1, none⟩) (by show w1.heap.size + 1 ≠ w1.heap.size; omega) (.int .i64 (pL zs js turn (k + 1))))
        have Z4 := hid (rZ3.out.other (a := ⟨w1.heap.size + 1, k + 1, none⟩) (by show w1.heap.size + 1 ≠ w.heap.size + 1; omega) (.int .i64 (pL zs js turn (k + 1))))
        have M4 := hid (M3.out.keep (Below.refl _ w3))
        have M5 : Hid (MoAt (w3.setCell ⟨w1.heap.size + 1, k + 1, none⟩ (.int .i64 (pL zs js turn (k + 1)))) w.heap.size b n cap g m cap' zs js) := hid (M3.out.below (k := w1.heap.size + 1) ((Below.refl _ w3).setCell (p := ⟨w1.heap.size + 1, k + 1, none⟩) (Nat.le_refl _) _) (by omega) (by omega) (by omega))
        obtain ⟨dd, hdd⟩ : ∃ x, x = ([e0, e1, e2, e3, e4, e5, e6, e7] : List Int)[k + 1]?.getD 0 := ⟨_, rfl⟩
        rw [← hdd] at cD
        have HV := hid (show dd * 1000 + bb = pL zs js turn (k + 1) by rw [hdd, hEE (k + 1) (by omega), HBB.out, ← beyJ_even (f := 0), ← HQ.out]; rfl)
        have db := hDB (k + 1) (by omega)
        rw [← hdd] at db
        clear hdd r4 rP3 j0 j1 a2 a3 a4 hq1 hq2
        have k7 : (k : Int) + 1 < 8 := by omega
        obtain ⟨pp, hpp⟩ : ∃ x, x = pL zs js turn (k + 1) := ⟨_, rfl⟩
        rw [← hpp] at HV R4 B4 D4 Z4 M5
        have HPP := hid hpp
        clear hpp
        go_wp2_with fail
        rw [HV.out]
        go_roundw
        case rel => exact ⟨k + 1, by omega, by go_num, R4.out, D4.out, Z4.out, M5.out, B4.out⟩
        case measure => simp [intOf]; omega
      · clear oj
        have bA : Below w.heap.size w (wr.alloc (.cells #[.int .i8 1, .int .i16 f] 75)) := hB.alloc hzw _
        have zA : (wr.alloc (.cells #[.int .i8 1, .int .i16 f] 75)).heap.size = wr.heap.size + 1 := by simp
        have j0 : (wr.alloc (.cells #[.int .i8 1, .int .i16 f] 75)).cell? ⟨wr.heap.size, 0, none⟩ = some (.int .i8 1) := (Row.new wr 75 [.int .i8 1, .int .i16 f]).cell 0
        have j1 : (wr.alloc (.cells #[.int .i8 1, .int .i16 f] 75)).cell? ⟨wr.heap.size, 1, none⟩ = some (.int .i16 f) := (Row.new wr 75 [.int .i8 1, .int .i16 f]).cell 1
        have bR : Below wr.heap.size wr (wr.alloc (.cells #[.int .i8 1, .int .i16 f] 75)) := (Below.refl _ _).alloc (Nat.le_refl _) _
        have a2 := (bR.cell (p := ⟨w1.heap.size + 1, k, none⟩) (by show w1.heap.size + 1 < _; omega)).trans cP
        have a3 := (bR.cell (p := ⟨w.heap.size, 0, none⟩) (by show w.heap.size < _; omega)).trans cM
        have a4 := (bR.cell (p := ⟨b, k, none⟩) (by show b < _; omega)).trans cZ
        have hm : ∀ w, (method 225 101 (.agg #[.int .i64 f]) "loop.example/g01278/impl.beyond").run Try.prog w = .ok (78, .agg #[.int .i64 f]) w := fun _ => by kernel_rfl
        have hna : ∀ w, (nilAhead 225 101 (.agg #[.int .i64 f]) "loop.example/g01278/impl.beyond").run Try.prog w = .ok (some false) w := fun _ => by kernel_rfl
        have HCY := hid (fun w => carry_late f w ⟨f0, f1⟩)
        have HBY := hid (fun w => beyond_late f q z w ⟨f0, f1⟩ pb zb)
        rw [← hbb] at HBY
        have HBB := hid hbb
        have k0 : (0 : Int) ≤ (k : Int) := by omega
        have k8 : (k : Int) < 8 := by omega
        have kn : (k : Int) < (n : Int) := by have := N.out; omega
        have wz : IntKind.i64.wrap z = z := IntWalk.i64_in z (by omega)
        clear hbb cP cM cZ
        go_wp2_with fail
        go_region_held3 (fun w' => w'.cell? ⟨wr.heap.size, 0, none⟩ = some (.int .i8 1) ∧ w'.cell? ⟨wr.heap.size, 1, none⟩ = some (.int .i16 f) ∧ w'.cell? ⟨w1.heap.size + 1, k, none⟩ = some (.int .i64 q) ∧ w'.cell? ⟨w.heap.size, 0, none⟩ = some (.slice (some ⟨b, 0, none⟩) n cap) ∧ w'.cell? ⟨b, k, none⟩ = some (.int .u8 z)) (first | with_reducible exact hq2 | with_reducible exact hq1 | exact ⟨j0, j1, a2, a3, a4⟩) ((first | (go_at_call 54; have hX := HCY.out (wr.alloc (.cells #[.int .i8 1, .int .i16 f] 75)).drew; refine hX.mono ?_; clear hX; rintro e w2 ⟨rfl, hB2⟩; simp only [World.size_drew, World.size_alloc] at hB2; have hz2 := hB2.size; simp only [World.size_drew, World.size_alloc] at hz2; have hq1 := And.intro ((hB2.cell (p := ⟨wr.heap.size, 0, none⟩) (by show wr.heap.size < _; omega)).trans j0) (And.intro ((hB2.cell (p := ⟨wr.heap.size, 1, none⟩) (by show wr.heap.size < _; omega)).trans j1) (And.intro ((hB2.cell (p := ⟨w1.heap.size + 1, k, none⟩) (by show w1.heap.size + 1 < _; omega)).trans a2) (And.intro ((hB2.cell (p := ⟨w.heap.size, 0, none⟩) (by show w.heap.size < _; omega)).trans a3) ((hB2.cell (p := ⟨b, k, none⟩) (by show b < _; omega)).trans a4))))) | (go_at_call 78; (try rw [wz]); have hX := HBY.out w2; refine hX.mono ?_; clear hX; rintro e w3 ⟨rfl, hB3⟩; have hz3 := hB3.size; have hq2 := And.intro ((hB3.cell (p := ⟨wr.heap.size, 0, none⟩) (by show wr.heap.size < _; omega)).trans hq1.1) (And.intro ((hB3.cell (p := ⟨wr.heap.size, 1, none⟩) (by show wr.heap.size < _; omega)).trans hq1.2.1) (And.intro ((hB3.cell (p := ⟨w1.heap.size + 1, k, none⟩) (by show w1.heap.size + 1 < _; omega)).trans hq1.2.2.1) (And.intro ((hB3.cell (p := ⟨w.heap.size, 0, none⟩) (by show w.heap.size < _; omega)).trans hq1.2.2.2.1) ((hB3.cell (p := ⟨b, k, none⟩) (by show b < _; omega)).trans hq1.2.2.2.2)))))))
        have b3 : Below (wr.heap.size + 1) (wr.alloc (.cells #[.int .i8 1, .int .i16 f] 75)) w3 := (Below.refl _ _).drew.trans (hB2.trans (hB3.mono (by omega)))
        have rP3 := (HP.out.below bR (by omega)).below b3 (by omega)
        have rD3 := hid ((HD.out.below bR (by omega)).below b3 (by omega))
        have rZ3 := hid ((HZ.out.below bR (by omega)).below b3 (by omega))
        have M3 := hid ((HM.out.below bR (by omega) (by omega) (by omega)).below b3 (by omega) (by omega) (by omega))
        have cD := (rD3.out.cell (k + 1)).trans (oct_get e0 e1 e2 e3 e4 e5 e6 e7 (k + 1) (by omega))
        have fP := rP3.frozen (k + 1)
        obtain ⟨old, hold⟩ : ∃ v, w3.cell? ⟨w1.heap.size + 1, k + 1, none⟩ = some v := ⟨_, (rP3.cell (k + 1)).trans (List.getElem?_eq_getElem (by rw [pto_len]; omega))⟩
        have r4 := rP3.set (k + 1) (.int .i64 (pL zs js turn (k + 1)))
        rw [pto_set zs js turn k (by omega)] at r4
        have R4 := hid r4
        have B4 := hid ((bA.trans (b3.mono (by omega))).setCell (p := ⟨w1.heap.size + 1, k + 1, none⟩) (by show w.heap.size ≤ w1.heap.size + 1; omega) (.int .i64 (pL zs js turn (k + 1))))
        have D4 := hid (rD3.out.other (a := ⟨w1.heap.size + 1, k + 1, none⟩) (by show w1.heap.size + 1 ≠ w1.heap.size; omega) (.int .i64 (pL zs js turn (k + 1))))
        have Z4 := hid (rZ3.out.other (a := ⟨w1.heap.size + 1, k + 1, none⟩) (by show w1.heap.size + 1 ≠ w.heap.size + 1; omega) (.int .i64 (pL zs js turn (k + 1))))
        have M4 := hid (M3.out.keep (Below.refl _ w3))
        have M5 : Hid (MoAt (w3.setCell ⟨w1.heap.size + 1, k + 1, none⟩ (.int .i64 (pL zs js turn (k + 1)))) w.heap.size b n cap g m cap' zs js) := hid (M3.out.below (k := w1.heap.size + 1) ((Below.refl _ w3).setCell (p := ⟨w1.heap.size + 1, k + 1, none⟩) (Nat.le_refl _) _) (by omega) (by omega) (by omega))
        obtain ⟨dd, hdd⟩ : ∃ x, x = ([e0, e1, e2, e3, e4, e5, e6, e7] : List Int)[k + 1]?.getD 0 := ⟨_, rfl⟩
        rw [← hdd] at cD
        have HV := hid (show dd * 1000 + bb = pL zs js turn (k + 1) by rw [hdd, hEE (k + 1) (by omega), HBB.out, ← HQ.out]; rfl)
        have db := hDB (k + 1) (by omega)
        rw [← hdd] at db
        clear hdd r4 rP3 j0 j1 a2 a3 a4 hq1 hq2
        have k7 : (k : Int) + 1 < 8 := by omega
        obtain ⟨pp, hpp⟩ : ∃ x, x = pL zs js turn (k + 1) := ⟨_, rfl⟩
        rw [← hpp] at HV R4 B4 D4 Z4 M5
        have HPP := hid hpp
        clear hpp
        go_wp2_with fail
        rw [HV.out]
        go_roundw
        case rel => exact ⟨k + 1, by omega, by go_num, R4.out, D4.out, Z4.out, M5.out, B4.out⟩
        case measure => simp [intOf]; omega
    · obtain rfl : k = m := by omega
      have hkn : k = zs.length - 1 := by have := HL.out; have := MM.out; omega
      have hPf := HP.out
      rw [hkn, pto_all (by have := N.out; omega), partsL_list] at hPf
      have HPF := hid hPf
      clear hPf hkn
      have q8 := HPF.out
      have z8 := HZ.out
      have p0 := q8.cell 0; have p1 := q8.cell 1; have p2 := q8.cell 2; have p3 := q8.cell 3; have p4 := q8.cell 4; have p5 := q8.cell 5; have p6 := q8.cell 6; have p7 := q8.cell 7
      have g0 := z8.cell 0; have k0 := z8.frozen 0; have g1 := z8.cell 1; have k1 := z8.frozen 1; have g2 := z8.cell 2; have k2 := z8.frozen 2; have g3 := z8.cell 3; have k3 := z8.frozen 3; have g4 := z8.cell 4; have k4 := z8.frozen 4; have g5 := z8.cell 5; have k5 := z8.frozen 5; have g6 := z8.cell 6; have k6 := z8.frozen 6; have g7 := z8.cell 7; have k7 := z8.frozen 7
      simp only [List.getElem?_cons_zero, List.getElem?_cons_succ] at p0 p1 p2 p3 p4 p5 p6 p7 g0 g1 g2 g3 g4 g5 g6 g7
      have r2 := hid (z8.set8 rfl (.int .i64 (dg (partsL zs js turn) 0)) (.int .i64 (dg (partsL zs js turn) 1)) (.int .i64 (dg (partsL zs js turn) 2)) (.int .i64 (dg (partsL zs js turn) 3)) (.int .i64 (dg (partsL zs js turn) 4)) (.int .i64 (dg (partsL zs js turn) 5)) (.int .i64 (dg (partsL zs js turn) 6)) (.int .i64 (dg (partsL zs js turn) 7)))
      have b2 := hid (below_set8 (g := w.heap.size + 1) hB (by omega) (.int .i64 (dg (partsL zs js turn) 0)) (.int .i64 (dg (partsL zs js turn) 1)) (.int .i64 (dg (partsL zs js turn) 2)) (.int .i64 (dg (partsL zs js turn) 3)) (.int .i64 (dg (partsL zs js turn) 4)) (.int .i64 (dg (partsL zs js turn) 5)) (.int .i64 (dg (partsL zs js turn) 6)) (.int .i64 (dg (partsL zs js turn) 7)))
      clear q8 z8
      go_wp2_with fail
      clear p0 p1 p2 p3 p4 p5 p6 p7 g0 g1 g2 g3 g4 g5 g6 g7 k0 k1 k2 k3 k4 k5 k6 k7
      obtain ⟨W, hW⟩ : ∃ W, W = ((((((((wr.setCell ⟨w.heap.size + 1, 0, none⟩ (.int .i64 (dg (partsL zs js turn) 0))).setCell ⟨w.heap.size + 1, 1, none⟩ (.int .i64 (dg (partsL zs js turn) 1))).setCell ⟨w.heap.size + 1, 2, none⟩ (.int .i64 (dg (partsL zs js turn) 2))).setCell ⟨w.heap.size + 1, 3, none⟩ (.int .i64 (dg (partsL zs js turn) 3))).setCell ⟨w.heap.size + 1, 4, none⟩ (.int .i64 (dg (partsL zs js turn) 4))).setCell ⟨w.heap.size + 1, 5, none⟩ (.int .i64 (dg (partsL zs js turn) 5))).setCell ⟨w.heap.size + 1, 6, none⟩ (.int .i64 (dg (partsL zs js turn) 6))).setCell ⟨w.heap.size + 1, 7, none⟩ (.int .i64 (dg (partsL zs js turn) 7))) := ⟨_, rfl⟩
      rw [← hW] at r2 b2 ⊢
      clear hW
      have r2 := r2.out
      have g0 := r2.cell 0; have g1 := r2.cell 1; have g2 := r2.cell 2; have g3 := r2.cell 3; have g4 := r2.cell 4; have g5 := r2.cell 5; have g6 := r2.cell 6; have g7 := r2.cell 7
      simp only [List.getElem?_cons_zero, List.getElem?_cons_succ] at g0 g1 g2 g3 g4 g5 g6 g7
      exact bodyPost_ret (v := .agg #[.int .i64 (dg (partsL zs js turn) 0), .int .i64 (dg (partsL zs js turn) 1), .int .i64 (dg (partsL zs js turn) 2), .int .i64 (dg (partsL zs js turn) 3), .int .i64 (dg (partsL zs js turn) 4), .int .i64 (dg (partsL zs js turn) 5), .int .i64 (dg (partsL zs js turn) 6), .int .i64 (dg (partsL zs js turn) 7)]) (by simp [results, Try.results43, go_sem, g0, g1, g2, g3, g4, g5, g6, g7]) rfl ⟨rfl, b2.out⟩
end Go.Proofs.Ytomhmkdfhhmenaa
