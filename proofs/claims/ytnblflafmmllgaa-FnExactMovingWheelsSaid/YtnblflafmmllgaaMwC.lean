/- MovingWheels: the program's closure. -/
import Derived.Test.YtnblflafmmllgaaMwB
namespace Go.Proofs.Ytnblflafmmllgaa
open Go.RowKit
set_option linter.unusedVariables false
set_option linter.unusedSimpArgs false
theorem Try.infoI64m : (Try.prog.info? 2).map (fun i => (i.zero, i.size, i.bytes)) = some (some (.int .i64 0), 1, 8) := by kernel_rfl
/-- those of the first k wheels that are beyond their digit -/
def movE (es : List Int) : Nat → List Int
  | 0 => []
  | k + 1 => if dg es k % 1000 = 0 then movE es k else movE es k ++ [(k : Int)]
theorem movE_yes {es : List Int} {k : Nat} (h : dg es k % 1000 = 0) : movE es (k + 1) = movE es k := if_pos h
theorem movE_no {es : List Int} {k : Nat} (h : ¬ dg es k % 1000 = 0) : movE es (k + 1) = movE es k ++ [(k : Int)] := if_neg h
theorem movE_len (es : List Int) : ∀ k, (movE es k).length ≤ k
  | 0 => Nat.le_refl _
  | k + 1 => by
    have := movE_len es k
    unfold movE
    split
    · omega
    · rw [List.length_append]; simp; omega
theorem dg_parts (zs : List Int) (js : List (Int × Int)) (turn : Int) (k : Nat) (hk : k < 8) : dg (partsL zs js turn) k = if k < zs.length then pL zs js turn k else 0 := by simp [dg, partsL, hk]
theorem dg_parts_bd {zs : List Int} {js : List (Int × Int)} {turn : Int} (h : okM zs js = true) (k : Nat) (hk : k < 8) : 0 ≤ dg (partsL zs js turn) k ∧ dg (partsL zs js turn) k ≤ 1000000 := by
  rw [dg_parts zs js turn k hk]
  split
  · obtain ⟨h1, h2, h3⟩ := okM_out h
    obtain ⟨_, _, hin, _, _⟩ := okL_out h1
    have := pL_bd (turn := turn) hin (fun j hj => okJs_out h3 j hj) h2 k (by assumption)
    have h4 := hin k (by assumption)
    omega
  · omega
/-- behind the last wheel nothing is beyond its digit -/
theorem movE_all {zs : List Int} (js : List (Int × Int)) (turn : Int) (h : zs.length ≤ 8) : ∀ d, zs.length + d ≤ 8 → movE (partsL zs js turn) (zs.length + d) = movE (partsL zs js turn) zs.length
  | 0, _ => rfl
  | d + 1, hd => by
    have ih := movE_all js turn h d (by omega)
    rw [← Nat.add_assoc, movE_yes (by rw [dg_parts zs js turn _ (by omega), if_neg (by omega)]; rfl), ih]
/-- an array of eight numbers is read at a place -/
theorem index_parts (d0 d1 d2 d3 d4 d5 d6 d7 : Int) (k : Nat) (hk : k < 8) (w : World) :
    (Instr.index 64 (.agg #[.int .i64 d0, .int .i64 d1, .int .i64 d2, .int .i64 d3, .int .i64 d4, .int .i64 d5, .int .i64 d6, .int .i64 d7]) (.int .i64 (k : Int))).run Try.prog w
      = .ok (.int .i64 (([d0, d1, d2, d3, d4, d5, d6, d7] : List Int)[k]?.getD 0)) w := by
  have i0 : (Instr.index 64 (.agg #[.int .i64 d0, .int .i64 d1, .int .i64 d2, .int .i64 d3, .int .i64 d4, .int .i64 d5, .int .i64 d6, .int .i64 d7]) (.int .i64 ((0 : Nat) : Int))).run Try.prog w = .ok (.int .i64 d0) w := by kernel_rfl
  have i1 : (Instr.index 64 (.agg #[.int .i64 d0, .int .i64 d1, .int .i64 d2, .int .i64 d3, .int .i64 d4, .int .i64 d5, .int .i64 d6, .int .i64 d7]) (.int .i64 ((1 : Nat) : Int))).run Try.prog w = .ok (.int .i64 d1) w := by kernel_rfl
  have i2 : (Instr.index 64 (.agg #[.int .i64 d0, .int .i64 d1, .int .i64 d2, .int .i64 d3, .int .i64 d4, .int .i64 d5, .int .i64 d6, .int .i64 d7]) (.int .i64 ((2 : Nat) : Int))).run Try.prog w = .ok (.int .i64 d2) w := by kernel_rfl
  have i3 : (Instr.index 64 (.agg #[.int .i64 d0, .int .i64 d1, .int .i64 d2, .int .i64 d3, .int .i64 d4, .int .i64 d5, .int .i64 d6, .int .i64 d7]) (.int .i64 ((3 : Nat) : Int))).run Try.prog w = .ok (.int .i64 d3) w := by kernel_rfl
  have i4 : (Instr.index 64 (.agg #[.int .i64 d0, .int .i64 d1, .int .i64 d2, .int .i64 d3, .int .i64 d4, .int .i64 d5, .int .i64 d6, .int .i64 d7]) (.int .i64 ((4 : Nat) : Int))).run Try.prog w = .ok (.int .i64 d4) w := by kernel_rfl
  have i5 : (Instr.index 64 (.agg #[.int .i64 d0, .int .i64 d1, .int .i64 d2, .int .i64 d3, .int .i64 d4, .int .i64 d5, .int .i64 d6, .int .i64 d7]) (.int .i64 ((5 : Nat) : Int))).run Try.prog w = .ok (.int .i64 d5) w := by kernel_rfl
  have i6 : (Instr.index 64 (.agg #[.int .i64 d0, .int .i64 d1, .int .i64 d2, .int .i64 d3, .int .i64 d4, .int .i64 d5, .int .i64 d6, .int .i64 d7]) (.int .i64 ((6 : Nat) : Int))).run Try.prog w = .ok (.int .i64 d6) w := by kernel_rfl
  have i7 : (Instr.index 64 (.agg #[.int .i64 d0, .int .i64 d1, .int .i64 d2, .int .i64 d3, .int .i64 d4, .int .i64 d5, .int .i64 d6, .int .i64 d7]) (.int .i64 ((7 : Nat) : Int))).run Try.prog w = .ok (.int .i64 d7) w := by kernel_rfl
  have h : k = 0 ∨ k = 1 ∨ k = 2 ∨ k = 3 ∨ k = 4 ∨ k = 5 ∨ k = 6 ∨ k = 7 := by omega
  clear hk
  rcases h with rfl | rfl | rfl | rfl | rfl | rfl | rfl | rfl
  · exact i0
  · exact i1
  · exact i2
  · exact i3
  · exact i4
  · exact i5
  · exact i6
  · exact i7
set_option maxRecDepth 100000 in
set_option maxHeartbeats 8000000 in
theorem moving1_ok (B p : Nat) (b n cap g m cap' : Nat) (zs : List Int) (js : List (Int × Int)) (turn : Int) (w : World) (hM : MoAt w B b n cap g m cap' zs js) (hp : p < w.heap.size) (cp : w.cell? ⟨p, 0, none⟩ = some (.int .i64 turn)) (hn : n = zs.length) (hm : m = js.length) (hvm : okM zs js = true) (hv : okL zs = true) (ht : turnOk zs turn = true) :
    Calls Try.prog 34 #[.pointer (some ⟨B, 0, none⟩), .pointer (some ⟨p, 0, none⟩)] w fun e w' => ∃ x, e = .returned x ∧ OwnI w' w.heap.size x (movE (partsL zs js turn) 8) ∧ Below w.heap.size w w' := by
  obtain ⟨i0, hi, iz0, iz1, iz2⟩ := info_parts Try.infoI64m
  have M0 := hid hM
  have hBl := hM.1.lt
  obtain ⟨c0, c1⟩ := hM.cells
  have cp0 := cp
  have sb := spanL_bd hv
  have tb := turnOk_out ht
  have HT := hid (fun w1 (h : Stk w1 b zs) => moTurn_ok b n cap g m cap' zs js turn w1 h hn hv ht)
  have HS := hid (fun w1 (h : MoAt w1 B b n cap g m cap' zs js) => moParts_any b n cap g m cap' zs js turn w1 h.2.1 h.2.2 hn hm hvm (by omega))
  have HW := hid (fun w1 => between_any (partsL zs js turn) (fun k hk => dg_parts_bd hvm k hk) w1)
  obtain ⟨es, hes⟩ : ∃ es, partsL zs js turn = es := ⟨_, rfl⟩
  rw [hes] at HS HW ⊢
  have hd0 : Hid (∃ y, y = dg es 0 % 1000) := hid ⟨_, rfl⟩
  obtain ⟨b0, hb0⟩ := hd0.out
  clear hd0
  have hd1 : Hid (∃ y, y = dg es 1 % 1000) := hid ⟨_, rfl⟩
  obtain ⟨b1, hb1⟩ := hd1.out
  clear hd1
  have hd2 : Hid (∃ y, y = dg es 2 % 1000) := hid ⟨_, rfl⟩
  obtain ⟨b2, hb2⟩ := hd2.out
  clear hd2
  have hd3 : Hid (∃ y, y = dg es 3 % 1000) := hid ⟨_, rfl⟩
  obtain ⟨b3, hb3⟩ := hd3.out
  clear hd3
  have hd4 : Hid (∃ y, y = dg es 4 % 1000) := hid ⟨_, rfl⟩
  obtain ⟨b4, hb4⟩ := hd4.out
  clear hd4
  have hd5 : Hid (∃ y, y = dg es 5 % 1000) := hid ⟨_, rfl⟩
  obtain ⟨b5, hb5⟩ := hd5.out
  clear hd5
  have hd6 : Hid (∃ y, y = dg es 6 % 1000) := hid ⟨_, rfl⟩
  obtain ⟨b6, hb6⟩ := hd6.out
  clear hd6
  have hd7 : Hid (∃ y, y = dg es 7 % 1000) := hid ⟨_, rfl⟩
  obtain ⟨b7, hb7⟩ := hd7.out
  clear hd7
  rw [← hb0, ← hb1, ← hb2, ← hb3, ← hb4, ← hb5, ← hb6, ← hb7] at HW
  have HBK : Hid (∀ k, k < 8 → ([b0, b1, b2, b3, b4, b5, b6, b7] : List Int)[k]?.getD 0 = dg es k % 1000) := hid fun k hk => by
    have hc : k = 0 ∨ k = 1 ∨ k = 2 ∨ k = 3 ∨ k = 4 ∨ k = 5 ∨ k = 6 ∨ k = 7 := by omega
    rcases hc with rfl | rfl | rfl | rfl | rfl | rfl | rfl | rfl
    · exact hb0
    · exact hb1
    · exact hb2
    · exact hb3
    · exact hb4
    · exact hb5
    · exact hb6
    · exact hb7
  obtain ⟨e0, he0⟩ : ∃ x, x = dg es 0 := ⟨_, rfl⟩
  obtain ⟨e1, he1⟩ : ∃ x, x = dg es 1 := ⟨_, rfl⟩
  obtain ⟨e2, he2⟩ : ∃ x, x = dg es 2 := ⟨_, rfl⟩
  obtain ⟨e3, he3⟩ : ∃ x, x = dg es 3 := ⟨_, rfl⟩
  obtain ⟨e4, he4⟩ : ∃ x, x = dg es 4 := ⟨_, rfl⟩
  obtain ⟨e5, he5⟩ : ∃ x, x = dg es 5 := ⟨_, rfl⟩
  obtain ⟨e6, he6⟩ : ∃ x, x = dg es 6 := ⟨_, rfl⟩
  obtain ⟨e7, he7⟩ : ∃ x, x = dg es 7 := ⟨_, rfl⟩
  rw [← he0, ← he1, ← he2, ← he3, ← he4, ← he5, ← he6, ← he7] at HS HW
  have HLEN := hid (movE_len es)
  clear hM cp hn hm hvm hv ht he0 he1 he2 he3 he4 he5 he6 he7 hb0 hb1 hb2 hb3 hb4 hb5 hb6 hb7 sb tb hes
  go_enter Try.func34, Try.ntmps34
  go_wp2_with fail
  go_region_held3 (fun w' => w'.cell? ⟨B, 0, none⟩ = some (.slice (some ⟨b, 0, none⟩) n cap) ∧ w'.cell? ⟨B, 1, none⟩ = some (.slice (some ⟨g, 0, none⟩) m cap') ∧ w'.cell? ⟨p, 0, none⟩ = some (.int .i64 turn)) (first | with_reducible exact hq3 | with_reducible exact hq2 | with_reducible exact hq1 | exact ⟨c0, c1, cp0⟩) ((first | (go_at_call 28; have hX := HT.out w.drew M0.out.2.1; refine hX.mono ?_; clear hX; rintro e w1 ⟨rfl, hB1⟩; have hz1 := hB1.size; simp only [World.size_drew] at hB1 hz1; have M1 := hid (MoAt.keep (w := w.drew) M0.out (by simpa only [World.size_drew] using hB1)); have hq0 := And.intro c0 (And.intro c1 cp0); have hq1 := And.intro ((hB1.cell (p := ⟨B, 0, none⟩) (by show B < _; omega)).trans hq0.1) (And.intro ((hB1.cell (p := ⟨B, 1, none⟩) (by show B < _; omega)).trans hq0.2.1) ((hB1.cell (p := ⟨p, 0, none⟩) (by show p < _; omega)).trans hq0.2.2))) | (go_at_call 35; have hX := HS.out w1 M1.out; refine hX.mono ?_; clear hX; rintro e w2 ⟨rfl, hB2⟩; have hz2 := hB2.size; have hq2 := And.intro ((hB2.cell (p := ⟨B, 0, none⟩) (by show B < _; omega)).trans hq1.1) (And.intro ((hB2.cell (p := ⟨B, 1, none⟩) (by show B < _; omega)).trans hq1.2.1) ((hB2.cell (p := ⟨p, 0, none⟩) (by show p < _; omega)).trans hq1.2.2))) | (go_at_call 36; have hX := HW.out w2; refine hX.mono ?_; clear hX; rintro e w3 ⟨rfl, hB3⟩; have hz3 := hB3.size; have hq3 := And.intro ((hB3.cell (p := ⟨B, 0, none⟩) (by show B < _; omega)).trans hq2.1) (And.intro ((hB3.cell (p := ⟨B, 1, none⟩) (by show B < _; omega)).trans hq2.2.1) ((hB3.cell (p := ⟨p, 0, none⟩) (by show p < _; omega)).trans hq2.2.2)))))
  have BB := hid ((Below.refl w.heap.size w).drew.trans (hB1.trans ((hB2.mono (by omega)).trans (hB3.mono (by omega)))))
  clear hq0 hq1 hq2 hq3 hB1 hB2 hB3 c0 c1 cp0
  go_wp2_with fail
  go_loopw [3, 12] (fun v i wr => ∃ k : Nat, k ≤ 8 ∧ i = .int .i64 k ∧ wr.ownsRow w.heap.size 2 1 v (movE es k).length ((movE es k).map (Value.int .i64)) ∧ Below w.heap.size w wr) (fun _ i _ => 8 - (intOf i).toNat)
  case atStart => exact ⟨0, Nat.zero_le _, rfl, World.ownsRow_nil _ _ _ _, BB.out⟩
  case round =>
    obtain ⟨k, hk, rfl, hown, hB⟩ := hrel
    have hzx := hB.size
    have HOW := hid hown
    have HBX := hid hB
    have MLEN := hid (HLEN.out k)
    by_cases hlt : k < 8
    · clear hown hB
      have hlt' : (k : Int) < 8 := by omega
      have hk0 : (0 : Int) ≤ (k : Int) := by omega
      have hix := fun w => index_parts b0 b1 b2 b3 b4 b5 b6 b7 k hlt w
      have hbk := HBK.out k hlt
      obtain ⟨x, hx⟩ : ∃ x, ([b0, b1, b2, b3, b4, b5, b6, b7] : List Int)[k]?.getD 0 = x := ⟨_, rfl⟩
      rw [hx] at hbk
      simp only [hx] at hix
      clear hx
      by_cases hz : x = 0
      · have HX := hid (movE_yes (es := es) (k := k) (by rw [← hbk]; exact hz))
        have d1 : (x != 0) = false := by simp [hz]
        clear hz hbk
        go_wp2_with fail
        go_roundw
        case rel => exact ⟨k + 1, by omega, by first | rfl | go_num, by rw [HX.out]; exact HOW.out, HBX.out⟩
        case measure => simp [intOf]; omega
      · have HX := hid (movE_no (es := es) (k := k) (by rw [← hbk]; exact hz))
        have d1 : (x != 0) = true := by simp [hz]
        have HO1 := hid (HOW.out.alloc (.cells #[.int .i64 (k : Int)] 2))
        have HBA := hid (HBX.out.alloc hzx (.cells #[.int .i64 (k : Int)] 2))
        have n0 := (Row.new wr 2 [.int .i64 (k : Int)]).cell 0
        simp only [List.getElem?_cons_zero] at n0
        clear hz hbk
        go_wp2_with (at_builtin; refine wpList_append_own _ rfl _ _ 27 rfl w.heap.size 2 i0 (.int .i64 0) 1 8 Try.underlying27 hi iz0 iz1 iz2 rfl (by decide) _ _ _ rfl HO1.out ⟨wr.heap.size, 0, none⟩ 1 1 [.int .i64 (k : Int)] rfl rfl (by intro j u hj; match j, hj with | 0, hj => simp at hj; subst hj; simp [Addr.add, n0]) (by intro u hu; simp at hu; subst hu; rfl) (by have := MLEN.out; unfold maxLen; omega) (by have := MLEN.out; omega) (by simp; omega) ?_; intro v' w2 hown' hgrow _)
        have HB2 := hid (HBA.out.grown hgrow (by simp; omega) (fun k e => by have := (HO1.out.lt k e).1; omega))
        have hown2 := hid (show w2.ownsRow w.heap.size 2 1 v' (movE es (k + 1)).length ((movE es (k + 1)).map (Value.int .i64)) by
          rw [HX.out, List.length_append, List.map_append]; exact hown')
        clear hown' hgrow n0
        go_roundw
        case rel => exact ⟨k + 1, by omega, by first | rfl | go_num, hown2.out, HB2.out⟩
        case measure => simp [intOf]; omega
    · obtain rfl : k = 8 := by omega
      have HO := hid (OwnI.of_owns hown (by have := MLEN.out; omega))
      clear hown hB
      go_wp2_with fail
      go_ret
      exact ⟨_, rfl, HO.out, HBX.out⟩
end Go.Proofs.Ytnblflafmmllgaa
