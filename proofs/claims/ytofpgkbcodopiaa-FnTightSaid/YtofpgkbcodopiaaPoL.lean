/- A stack, a log and a flow that are drawn. -/
import Derived.Test.YtofpgkbcodopiaaPoS
namespace Go.Proofs.Ytofpgkbcodopiaa
open Go.RowKit
set_option linter.unusedVariables false
set_option linter.unusedSimpArgs false
/-- a stack, a log and a flow, drawn -/
def A2L (w : World) (e : Ending) (w' : World) : Prop := ∃ (Z : List Int) (js : List (Int × Int)) (d : Int) (v : Value) (B L : Nat) (p q : Int), e = .returned (.tuple #[.slice (some ⟨B, 0, none⟩) Z.length Z.length, v, .agg #[.int .i64 p, .int .i64 q]]) ∧ (Z = [10, 10, 10] ∨ Z = [6, 4, 3] ∨ Z = [10, 10]) ∧ js.length ≤ 8 ∧ LogP (szL Z) js d ∧ Stk w' B Z ∧ w'.ownsRow L 38 2 v js.length (tvals js) ∧ (0 ≤ p ∧ p ≤ 5 ∧ p ≤ q ∧ q ≤ 16) ∧ Below w.heap.size w w' ∧ v.ownBlock ≠ none
set_option maxRecDepth 100000 in
set_option maxHeartbeats 2000000 in
theorem a2Log_any (a : Option Addr) (len cap : Nat) (zs : List Int) (w : World) (h : InB w a len zs) (hl : len ≤ 4096) :
    Calls Try.prog 5 #[.slice a len cap] w (A2L w) := by
  obtain ⟨R, hR⟩ : ∃ R, w.heap.size = R := ⟨_, rfl⟩
  have rR := Row.new w 27 [.int .i64 0, .int .i64 0]
  have b1 : Below w.heap.size w (w.alloc (.cells #[.int .i64 0, .int .i64 0] 27)) := (Below.refl _ _).alloc (Nat.le_refl _) _
  obtain ⟨V1, hV1⟩ : ∃ X, X = w.alloc (.cells #[.int .i64 0, .int .i64 0] 27) := ⟨_, rfl⟩
  have s1 : V1.heap.size = R + 1 := by rw [hV1]; simp [hR]
  rw [← hV1] at rR b1
  rw [hR] at rR b1
  have HF := hid (from_any a len cap zs V1 (h.below (w := w) b1 (by omega)) hl)
  rw [s1] at HF
  have HR := hid hR; have RR := hid rR; have B1 := hid b1; have S1 := hid s1; have HV1 := hid hV1
  clear h hl rR b1 s1 hV1
  go_enter Try.func5, Try.ntmps5
  go_wp2_with fail
  rw [← HV1.out]
  with_reducible refine HF.out.mono ?_
  rintro e w1 ⟨rfl, hS, hB, hz⟩
  have HP1 := hid (pick_any (R + 1) 0 zs 6 w1 hS (by omega) (by omega))
  have r1 := RR.out.below hB (by omega)
  have b2 := B1.out.trans (hB.mono (by omega))
  have RR := hid r1; have B2 := hid b2; have S2 := hid (show w1.heap.size = R + 2 by omega)
  clear hS hB hz r1 b2 HF B1 S1 HV1
  go_wp2_with fail
  with_reducible refine HP1.out.mono ?_
  rintro e w2 ⟨p, j, p0, p1, rfl, hj, hj2, hS, hO⟩
  have PB := hid (show 0 ≤ p ∧ p ≤ 5 by omega)
  have r1 := (hO.row RR.out (by omega)).alloc (.cells #[.int .i64 p, .int .i64 0] 27)
  have s2 : w2.heap.size = R + 2 := by rw [hO.1]; exact S2.out
  have b3 := (B2.out.trans (hO.2.2.mono (show R ≤ R + 1 by omega))).alloc (by omega) (.cells #[.int .i64 p, .int .i64 0] 27)
  have rF := Row.new w2 27 [.int .i64 p, .int .i64 0]
  rw [s2] at rF
  have src3 := hS.below ((Below.refl (R + 2) w2).alloc (by omega) (.cells #[.int .i64 p, .int .i64 0] 27)) (by omega)
  obtain ⟨V3, hV3⟩ : ∃ X, X = w2.alloc (.cells #[.int .i64 p, .int .i64 0] 27) := ⟨_, rfl⟩
  rw [← hV3] at r1 b3 rF src3
  have s3 : V3.heap.size = R + 3 := by rw [hV3]; simp [s2]
  have RR := hid r1; have B3 := hid b3; have RF := hid rF; have SRC := hid src3; have S3 := hid s3; have HV3 := hid hV3; have S2 := hid s2; have HJ := hid (show j ≤ 2 by omega)
  clear hS hO hj hj2 p0 p1 r1 b3 rF src3 s3 hV3 s2 HP1 B2
  go_upto_region 3 with fail
  rw [← HV3.out, S2.out]
  refine wp_region_held (S := fun W' : World => W'.cell? ⟨R + 2, 0, none⟩ = some (.int .i64 p)) (by kernel_rfl) ?_
  change wpAnyH _ _ _ _ _ _ _ _ (World.drew _)
  obtain ⟨X4, hX4⟩ : ∃ X, X = World.drew V3 := ⟨_, rfl⟩
  have bD : Below V3.heap.size V3 X4 := by rw [hX4]; exact (Below.refl _ _).drew
  have RR := hid (RR.out.below bD RR.out.lt); have RF := hid (RF.out.below bD RF.out.lt); have SRC := hid (SRC.out.below bD (by have := S3.out; omega)); have B3 := hid (B3.out.trans (bD.mono (by have := S3.out; omega)))
  have S3 := hid (show X4.heap.size = R + 3 by rw [hX4]; exact S3.out)
  have CF0 : X4.cell? ⟨R + 2, 0, none⟩ = some (.int .i64 p) := RF.out.cell 0
  rw [← hX4]
  clear hX4 bD
  refine wpAnyH_takeD (some 14) (i := 0) (v := ?_) rfl rfl (by kernel_rfl) (by kernel_rfl) (by kernel_rfl) (fun _ _ _ h => h) (.inl ⟨by kernel_rfl, ?_⟩) CF0 ?_
  rotate_left
  · intro w' hw'; go_simp; try with_reducible rfl
  try simp only [Act.put, List.setIfInBounds_toArray, List.set_cons_zero, List.set_cons_succ]
  refine wpAnyH_takeD (some 15) (i := 1) (v := ?_) rfl rfl (by kernel_rfl) (by kernel_rfl) (by kernel_rfl) (fun _ _ _ h => h) (.inl ⟨by kernel_rfl, ?_⟩) CF0 ?_
  rotate_left
  · intro w' hw'; go_simp; try with_reducible rfl
  try simp only [Act.put, List.setIfInBounds_toArray, List.set_cons_zero, List.set_cons_succ]
  refine wpAnyH_takeD (some 16) (i := 2) (v := ?_) rfl rfl (by kernel_rfl) (by kernel_rfl) (by kernel_rfl) (fun _ _ _ h => h) (.inl ⟨by kernel_rfl, ?_⟩) CF0 ?_
  rotate_left
  · intro w' hw'; go_simp; try with_reducible rfl
  try simp only [Act.put, List.setIfInBounds_toArray, List.set_cons_zero, List.set_cons_succ]
  refine wpAnyH_all (rs := [3]) (by kernel_rfl) (by simp) ?_
  intro i hi; simp only [List.mem_cons, List.not_mem_nil, or_false] at hi
  subst hi
  refine wpOp_step rfl (fun K hK => ?_)
  go_simp
  with_reducible refine (pick_any (R + 1) j zs 12 X4 SRC.out (by have := HJ.out; omega) (by omega)).mono ?_
  rintro e w4 ⟨q1, j4, q0, q2, rfl, hj, hj2, hS, hO⟩
  have r1 := hO.row RR.out (by omega)
  have rF := hO.row RF.out (by omega)
  have b4 := B3.out.trans (hO.2.2.mono (show R ≤ R + 1 by omega))
  have s4 : w4.heap.size = R + 3 := by rw [hO.1]; exact S3.out
  have RR := hid r1; have RF := hid rF; have B4 := hid b4; have SRC4 := hid hS; have S4 := hid s4
  have J4 := hid (show j4 ≤ 100 by have := HJ.out; omega)
  have CF : w4.cell? ⟨R + 2, 0, none⟩ = some (.int .i64 p) := rF.cell 0
  obtain ⟨q, hq⟩ : ∃ q, p + q1 = q := ⟨_, rfl⟩
  have QB := hid (show p ≤ q ∧ q ≤ 16 by have := PB.out; omega)
  have wq : IntKind.i64.wrap (p + q1) = q := (IntWalk.i64_in _ (by have := PB.out; omega)).trans hq
  clear hS hO hj hj2 q0 q2 r1 b4 s4 hq
  refine hK _ _ ⟨CF, ?_⟩
  try simp only [Act.put, List.setIfInBounds_toArray, List.set_cons_zero, List.set_cons_succ]
  clear hK K
  refine wpAnyH_takeD (some 18) (i := 4) (v := ?_) rfl rfl (by kernel_rfl) (by kernel_rfl) (by kernel_rfl) (fun _ _ _ h => h) (.inl ⟨by kernel_rfl, ?_⟩) CF ?_
  rotate_left
  · intro w' hw'; go_simp; try with_reducible rfl
  try simp only [Act.put, List.setIfInBounds_toArray, List.set_cons_zero, List.set_cons_succ]
  refine wpAnyH_takeD (some 19) (i := 5) (v := ?_) rfl rfl (by kernel_rfl) (by kernel_rfl) (by kernel_rfl) (fun _ _ _ h => h) (.inl ⟨by kernel_rfl, ?_⟩) CF ?_
  rotate_left
  · intro w' hw'; go_simp; try with_reducible rfl
  try simp only [Act.put, List.setIfInBounds_toArray, List.set_cons_zero, List.set_cons_succ]
  refine wpAnyH_all (rs := [6]) (by kernel_rfl) (by simp) ?_
  intro i hi; simp only [List.mem_cons, List.not_mem_nil, or_false] at hi
  subst hi
  refine wpOp_step rfl (fun K hK => ?_)
  have fw : w4.frozen? ⟨R + 2, 1, none⟩ = false := rF.frozen 1
  have ow1 : w4.cell? ⟨R + 2, 1, none⟩ = some (.int .i64 0) := rF.cell 1
  have CF2 : (w4.setCell ⟨R + 2, 1, none⟩ (.int .i64 q)).cell? ⟨R + 2, 0, none⟩ = some (.int .i64 p) := (rF.set 1 (.int .i64 q)).cell 0
  go_simp
  refine hK _ _ ⟨CF2, ?_⟩
  try simp only [Act.put, List.setIfInBounds_toArray, List.set_cons_zero, List.set_cons_succ]
  clear fw ow1
  clear hK K
  refine wpAnyH_done (by kernel_rfl) ?_ _
  have rF5 := rF.set 1 (.int .i64 q)
  simp only [List.set_cons_zero, List.set_cons_succ] at rF5
  have r5 := RR.out.other (a := ⟨R + 2, 1, none⟩) (by show R + 2 ≠ R; omega) (.int .i64 q)
  have b5 := B4.out.setCell (p := ⟨R + 2, 1, none⟩) (by show R ≤ R + 2; omega) (.int .i64 q)
  have src5 := SRC4.out.below ((Below.refl (R + 2) w4).setCell (p := ⟨R + 2, 1, none⟩) (by show R + 2 ≤ R + 2; omega) (.int .i64 q)) (by omega)
  obtain ⟨X5, hX5⟩ : ∃ X, X = w4.setCell ⟨R + 2, 1, none⟩ (.int .i64 q) := ⟨_, rfl⟩
  have s5 : X5.heap.size = R + 3 := by rw [hX5]; simp [S4.out]
  rw [← hX5] at rF5 r5 b5 src5 ⊢
  have HD := hid (l04Drawn_any (R + 1) j4 zs p q ⟨PB.out.1, by have := PB.out; omega⟩ X5 src5 J4.out (by omega))
  have RR := hid r5; have B5 := hid b5; have RF := hid rF5; have S5 := hid s5
  have e0 := rF5.cell 0; have e1 := rF5.cell 1
  simp only [List.getElem?_cons_zero, List.getElem?_cons_succ] at e0 e1
  clear hX5 rF rF5 r5 b5 src5 s5 wq CF CF2 B4 SRC4 S4 J4
  go_wp2_with fail
  with_reducible refine HD.out.mono ?_
  rintro e w6 ⟨Z, js, d, v, B, L, rfl, hZ, hn, hLP, rB, hB1, hB2, ow, hb, ho, hnn⟩
  have HNN9 := hid hnn
  clear hnn
  have r6 := RR.out.below hb (by omega)
  have rF6 := ho.row RF.out (by omega)
  have b6 := B5.out.trans (hb.mono (show R ≤ R + 1 by omega))
  have HH := hid (And.intro hZ (And.intro hn (And.intro hLP (And.intro rB (And.intro (show R + 3 < B by rw [← S5.out]; exact hB1) (And.intro hB2 ow))))))
  have RR := hid r6; have B6 := hid b6
  have RFN := hid rF6
  clear hZ hn hLP rB hB1 hB2 ow hb ho r6 b6 rF6 e0 e1 RF B5 HD
  go_upto_region 5 with fail
  refine wp_region_held (S := fun W' : World => Row W' (R + 2) 27 [.int .i64 p, .int .i64 q]) (by kernel_rfl) ?_
  change wpAnyH _ _ _ _ _ _ _ _ (World.drew _)
  obtain ⟨X7, hX7⟩ : ∃ X, X = World.drew w6 := ⟨_, rfl⟩
  have bD : Below w6.heap.size w6 X7 := by rw [hX7]; exact (Below.refl _ _).drew
  have B6 := hid (B6.out.trans (bD.mono (by have := RR.out.lt; omega)))
  have RFN := hid (RFN.out.below bD RFN.out.lt)
  have RR := hid (RR.out.below bD RR.out.lt)
  have HH := hid (show (Z = [10, 10, 10] ∨ Z = [6, 4, 3] ∨ Z = [10, 10]) ∧ js.length ≤ 8 ∧ LogP (szL Z) js d ∧ Row X7 B 5 (Z.map (Value.int .u8)) ∧ R + 3 < B ∧ B < L ∧ X7.ownsRow L 38 2 v js.length (tvals js) from by
    obtain ⟨hZ, hn, hLP, rB, hB1, hB2, ow⟩ := HH.out
    exact ⟨hZ, hn, hLP, rB.below bD rB.lt, hB1, hB2, by rw [hX7]; exact ow⟩)
  rw [← hX7]
  clear hX7 bD
  refine wpAnyH_takeD (some 26) (i := 0) (v := ?_) rfl rfl (by kernel_rfl) (by kernel_rfl) (by kernel_rfl) (fun _ _ _ h => h) (.inl ⟨by kernel_rfl, ?_⟩) RFN.out ?_
  rotate_left
  · intro w' hw'; go_simp; try with_reducible rfl
  try simp only [Act.put, List.setIfInBounds_toArray, List.set_cons_zero, List.set_cons_succ]
  refine wpAnyH_takeD (some 27) (i := 1) (v := ?_) rfl rfl (by kernel_rfl) (by kernel_rfl) (by kernel_rfl) (fun _ _ _ h => h) (.inl ⟨by kernel_rfl, ?_⟩) RFN.out ?_
  rotate_left
  · intro w' hw'; go_simp; try with_reducible rfl
  try simp only [Act.put, List.setIfInBounds_toArray, List.set_cons_zero, List.set_cons_succ]
  refine wpAnyH_takeD (some 28) (i := 2) (v := ?_) rfl rfl (by kernel_rfl) (by kernel_rfl) (by kernel_rfl) (fun _ _ _ h => h) (.inl ⟨by kernel_rfl, ?_⟩) RFN.out ?_
  rotate_left
  · intro w' hw'; have e0 := Row.cell hw' 0; have e1 := Row.cell hw' 1; simp only [List.getElem?_cons_zero, List.getElem?_cons_succ] at e0 e1; clear hw'; go_simp; try with_reducible rfl
  try simp only [Act.put, List.setIfInBounds_toArray, List.set_cons_zero, List.set_cons_succ]
  refine wpAnyH_takeD (some 2) (i := 3) (v := ?_) rfl rfl (by kernel_rfl) (by kernel_rfl) (by kernel_rfl) (fun _ _ _ h => h) (.inl ⟨by kernel_rfl, ?_⟩) RFN.out ?_
  rotate_left
  · intro w' hw'; go_simp; try with_reducible rfl
  try simp only [Act.put, List.setIfInBounds_toArray, List.set_cons_zero, List.set_cons_succ]
  refine wpAnyH_takeD (some 3) (i := 4) (v := ?_) rfl rfl (by kernel_rfl) (by kernel_rfl) (by kernel_rfl) (fun _ _ _ h => h) (.inl ⟨by kernel_rfl, ?_⟩) RFN.out ?_
  rotate_left
  · intro w' hw'; go_simp; try with_reducible rfl
  try simp only [Act.put, List.setIfInBounds_toArray, List.set_cons_zero, List.set_cons_succ]
  refine wpAnyH_all (rs := [5]) (by kernel_rfl) (by simp) ?_
  intro i hi; simp only [List.mem_cons, List.not_mem_nil, or_false] at hi
  subst hi
  refine wpOp_step rfl (fun K hK => ?_)
  have fw0 : X7.frozen? ⟨R, 0, none⟩ = false := RR.out.frozen 0
  have fw1 : X7.frozen? ⟨R, 1, none⟩ = false := RR.out.frozen 1
  have ow0 : X7.cell? ⟨R, 0, none⟩ = some (.int .i64 0) := RR.out.cell 0
  have ow1 : X7.cell? ⟨R, 1, none⟩ = some (.int .i64 0) := RR.out.cell 1
  have RF8 : Row ((X7.setCell ⟨R, 0, none⟩ (.int .i64 p)).setCell ⟨R, 1, none⟩ (.int .i64 q)) (R + 2) 27 [.int .i64 p, .int .i64 q] := (RFN.out.other (a := ⟨R, 0, none⟩) (by show R ≠ R + 2; omega) _).other (a := ⟨R, 1, none⟩) (by show R ≠ R + 2; omega) _
  go_simp
  refine hK _ _ ⟨RF8, ?_⟩
  try simp only [Act.put, List.setIfInBounds_toArray, List.set_cons_zero, List.set_cons_succ]
  clear fw0 fw1 ow0 ow1
  clear hK K
  refine wpAnyH_done (by kernel_rfl) ?_ _
  obtain ⟨hZ, hn, hLP, rB, hB1, hB2, ow⟩ := HH.out
  have rE := (RR.out.set 0 (.int .i64 p)).set 1 (.int .i64 q)
  simp only [List.set_cons_zero, List.set_cons_succ] at rE
  have e0 := rE.cell 0; have e1 := rE.cell 1
  simp only [List.getElem?_cons_zero, List.getElem?_cons_succ] at e0 e1
  have rB8 := (rB.other (a := ⟨R, 0, none⟩) (by show R ≠ B; omega) (.int .i64 p)).other (a := ⟨R, 1, none⟩) (by show R ≠ B; omega) (.int .i64 q)
  have ow8 := owns_setV (p := R) (j := 1) (u := .int .i64 q) (owns_setV (p := R) (j := 0) (u := .int .i64 p) ow (fun k hk e => by have := (ow.lt k hk).1; omega)) (fun k hk e => by have := (ow.lt k hk).1; omega)
  have b8 := (B6.out.setCell (p := ⟨R, 0, none⟩) (Nat.le_refl R) (.int .i64 p)).setCell (p := ⟨R, 1, none⟩) (Nat.le_refl R) (.int .i64 q)
  have hst := stk_row rB8 (by rcases hZ with rfl | rfl | rfl <;> decide) (by rcases hZ with rfl | rfl | rfl <;> decide)
  have HE := hid (And.intro hZ (And.intro hn (And.intro hLP (And.intro hst (And.intro ow8 b8)))))
  clear hZ hn hLP rB hB1 hB2 ow rE rB8 ow8 b8 hst RF8
  go_wp2_with fail
  obtain ⟨hZ, hn, hLP, hst, ow8, b8⟩ := HE.out
  exact bodyPost_ret (v := .tuple #[.slice (some ⟨B, 0, none⟩) Z.length Z.length, v, .agg #[.int .i64 p, .int .i64 q]]) (by simp [results, Try.results5, go_sem, e0, e1]) rfl ⟨Z, js, d, v, B, L, p, q, rfl, hZ, hn, hLP, hst, ow8, ⟨PB.out.1, PB.out.2, QB.out.1, QB.out.2⟩, by first | (rw [HR.out]; exact b8) | exact b8, HNN9.out⟩
end Go.Proofs.Ytofpgkbcodopiaa
