/- The law on what is off: FnOff. -/
import Derived.Test.YtdlcbfoghpoliaaOfA
import Derived.Test.YtdlcbfoghpoliaaOfB
import Derived.Test.YtdlcbfoghpoliaaFirst
import Derived.Test.YtdlcbfoghpoliaaDriven
import Derived.Test.YtdlcbfoghpoliaaHeld
namespace Go.Proofs.Ytdlcbfoghpoliaa
open Go.RowKit
set_option linter.unusedVariables false
set_option linter.unusedSimpArgs false
theorem least_off {P : Nat → Prop} : ∀ n, (∀ j, j < n → P j) ∨ ∃ k, k < n ∧ ¬ P k ∧ ∀ j, j < k → P j
  | 0 => .inl (fun j h => by omega)
  | n + 1 => by
    rcases least_off (P := P) n with h | ⟨k, hk, h1, h2⟩
    · by_cases c : P n
      · exact .inl (fun j hj => by
          by_cases e : j = n
          · rw [e]; exact c
          · exact h j (by omega))
      · exact .inr ⟨n, by omega, c, h⟩
    · exact .inr ⟨k, by omega, h1, h2⟩
theorem rat_ok {js : List (Int × Int)} (h : okT js = true) : okR (redP (prD js js.length) (prN js js.length)) (redQ (prD js js.length) (prN js js.length)) = true := by
  have b := rat_bd h
  obtain ⟨p1, p2, p3, p4⟩ := pr_bd h js.length (Nat.le_refl _)
  obtain ⟨_, _, _, _, _, _, _, g, _⟩ := red_bd p1 p3
  unfold okR
  exact decide_eq_true ⟨by omega, by omega, by omega, by omega, g⟩
theorem first_cases (X Y p q : Int) (n : Nat) : (∃ k : Nat, k < n ∧ firstF X Y p q n = ((k : Int) + 1, 0) ∧ (∀ j, j < k → offI ((j : Int) + 1) X Y p q = 0) ∧ offI ((k : Int) + 1) X Y p q ≠ 0) ∨ (firstF X Y p q n = (0, 6) ∧ ∀ j, j < n → offI ((j : Int) + 1) X Y p q = 0) := by
  rcases least_off (P := fun j => offI ((j : Int) + 1) X Y p q = 0) n with h | ⟨k, hk, h2, h3⟩
  · exact .inr ⟨first_none h, h⟩
  · exact .inl ⟨k, hk, first_at hk h3 h2, h3, h2⟩
theorem off_zero (X Y p q : Int) : offI 0 X Y p q = 0 := by unfold offI turnsI; simp
set_option maxRecDepth 100000 in
set_option maxHeartbeats 8000000 in
theorem law_FnOff_in (a : Option Addr) (len cap : Nat) (zs : List Int) (a' : Option Addr) (len' cap' : Nat) (zs' : List Int) (w : World) (h : InB w a len zs) (h' : InB w a' len' zs') (hl : len ≤ 4096) (hl' : len' ≤ 4096) :
    Calls Try.prog 3 #[.slice a len cap, .slice a' len' cap'] w fun e w' => e = .returned (.bool true) ∧ Below w.heap.size w w' := by
  have H2 := hid h'
  have F1 := hid (f6big_no a len cap w hl); have F2 := hid (f6big_no a' len' cap' w hl')
  have PT := hid (p6Train_any a len cap zs w h hl)
  have PB := hid (fun (n : Int) (W : World) (hI : InB W a' len' zs') (hn : n ≤ 4611686018427387904) => p6Pick_any a' len' cap' zs' n W hI hl' hn)
  clear h h' hl hl'
  go_enter Try.func3, Try.ntmps3
  go_wp2_with fail
  refine F1.out.mono ?_
  rintro e w1 ⟨rfl, hw⟩
  subst hw
  go_wp2_with fail
  refine F2.out.mono ?_
  rintro e w2 ⟨rfl, hw⟩
  subst hw
  go_wp2_with fail
  with_reducible refine PT.out.mono ?_
  rintro e w1 ⟨B, cp, js, rfl, hok, hbd, hp, hB⟩
  have rb := rat_bd hok
  have rk := rat_ok hok
  have RT := hid (fun W (s : Pst W B js) => specRat_any B js.length cp js W s rfl hbd)
  rw [ratR_yes hok] at RT
  have FI := hid (fun p q (hp : I64 p) (hq : I64 q) (hk : okR p q = true) W (s : Pst W B js) => show Calls Try.prog 9 #[.slice (some ⟨B, 0, none⟩) js.length cp, .agg #[.int .i64 p, .int .i64 q], .int .i64 300] W (GivesB W (.tuple #[.int .i64 (firstF (redP (prD js js.length) (prN js js.length)) (redQ (prD js js.length) (prN js js.length)) p q 300).1, .int .i64 (firstF (redP (prD js js.length) (prN js js.length)) (redQ (prD js js.length) (prN js js.length)) p q 300).2])) from by
    have := implFirst_any B js.length cp js p q 300 W s rfl hbd hp hq ⟨by omega, by omega⟩
    rw [firR_yes hok hk (by omega)] at this
    exact this)
  have FS := hid (fun p q (hp : I64 p) (hq : I64 q) (hk : okR p q = true) W (s : Pst W B js) => show Calls Try.prog 10 #[.slice (some ⟨B, 0, none⟩) js.length cp, .agg #[.int .i64 p, .int .i64 q], .int .i64 300] W (GivesB W (.tuple #[.int .i64 (firstF (redP (prD js js.length) (prN js js.length)) (redQ (prD js js.length) (prN js js.length)) p q 300).1, .int .i64 (firstF (redP (prD js js.length) (prN js js.length)) (redQ (prD js js.length) (prN js js.length)) p q 300).2])) from by
    have := specFirst_any B js.length cp js p q 300 W s rfl hbd hp hq ⟨by omega, by omega⟩
    rw [firR_yes hok hk (by omega)] at this
    exact this)
  have OF := hid (fun p q c (hp : I64 p) (hq : I64 q) (hk : okR p q = true) (hc : 0 ≤ c ∧ c ≤ 300) W (s : Pst W B js) => show Calls Try.prog 11 #[.slice (some ⟨B, 0, none⟩) js.length cp, .agg #[.int .i64 p, .int .i64 q], .int .i64 c] W (GivesB W (.tuple #[.int .i64 (offI c (redP (prD js js.length) (prN js js.length)) (redQ (prD js js.length) (prN js js.length)) p q), .int .i64 0])) from by
    have := implOff_any B js.length cp js p q c W s rfl hbd hp hq ⟨by omega, by omega⟩
    rw [offR_yes hok hk (by omega)] at this
    exact this)
  obtain ⟨X, hX⟩ : ∃ X, redP (prD js js.length) (prN js js.length) = X := ⟨_, rfl⟩
  obtain ⟨Y, hY⟩ : ∃ X, redQ (prD js js.length) (prN js js.length) = X := ⟨_, rfl⟩
  rw [hX, hY] at RT rb rk
  simp only [hX, hY] at FI FS OF
  have RT := hid (fun W (s : Pst W B js) => show Calls Try.prog 6 #[.slice (some ⟨B, 0, none⟩) js.length cp] W (GivesB W (.tuple #[.agg #[.int .i64 X, .int .i64 Y], .int .i64 0])) from RT.out W s)
  have FO := hid (fun W s => FI.out X Y ⟨by omega, by omega⟩ ⟨by omega, by omega⟩ rk W s)
  rw [first_none (fun j hj => off_same _ X Y)] at FO
  have NR := hid (fun m (hm : 1 ≤ m ∧ m ≤ 1000) W => specNearest_any X Y m rk hm W)
  obtain ⟨n, hn⟩ : ∃ n, js.length = n := ⟨_, rfl⟩
  rw [hn] at RT FI FS OF FO ⊢
  have HST := hid hp; have B0 := hid hB; have HLT := hid hp.1
  have Q0 := hid (Below.refl w1.heap.size w1)
  clear hok hbd hp hB rb rk hX hY hn PT F1 F2
  go_wp2_with fail
  with_reducible refine (RT.out w1 (HST.out.below Q0.out HLT.out)).mono ?_
  rintro e w11 ⟨rfl, hB⟩
  have Q12 := hid (Q0.out.trans (hB.mono Q0.out.size))
  clear hB
  have rr := Row.new w11 28 [.int .i64 X, .int .i64 Y]
  have aa : Below w11.heap.size w11 (w11.alloc (.cells #[.int .i64 X, .int .i64 Y] 28)) := (Below.refl _ _).alloc (Nat.le_refl _) _
  obtain ⟨Go, hGo⟩ : ∃ y, w11.heap.size = y := ⟨_, rfl⟩
  obtain ⟨V13, hV13⟩ : ∃ ww, ww = w11.alloc (.cells #[.int .i64 X, .int .i64 Y] 28) := ⟨_, rfl⟩
  rw [← hV13] at rr aa
  rw [hGo] at rr
  have Q14 := hid (Q12.out.trans (aa.mono Q12.out.size))
  have HRo := hid rr; have HVV13 := hid hV13; have HGo := hid hGo
  clear rr aa hV13 hGo
  go_upto_region 5 with fail
  rw [← HVV13.out, HGo.out]
  clear HVV13 HGo
  refine wp_region_held (S := fun W' : World => W'.cell? ⟨Go, 0, none⟩ = some (.int .i64 X) ∧ W'.cell? ⟨Go, 1, none⟩ = some (.int .i64 Y)) (by kernel_rfl) ?_
  change wpAnyH _ _ _ _ _ _ _ _ (World.drew _)
  obtain ⟨X5, hX5⟩ : ∃ X, X = World.drew V13 := ⟨_, rfl⟩
  have bD : Below V13.heap.size V13 X5 := by rw [hX5]; exact (Below.refl _ _).drew
  have R6X5 := hid (HRo.out.below bD HRo.out.lt); have QX5 := hid (Q14.out.trans (bD.mono Q14.out.size))
  rw [← hX5]
  clear hX5 bD
  have hSX5 : X5.cell? ⟨Go, 0, none⟩ = some (.int .i64 X) ∧ X5.cell? ⟨Go, 1, none⟩ = some (.int .i64 Y) := by
    have c0 := R6X5.out.cell 0; have c1 := R6X5.out.cell 1
    simp only [List.getElem?_cons_zero, List.getElem?_cons_succ] at c0 c1
    exact ⟨c0, c1⟩
  refine wpAnyH_takeD (some 34) (i := 0) (v := ?_) rfl rfl (by kernel_rfl) (by kernel_rfl) (by kernel_rfl) (fun _ _ _ h => h) (.inl ⟨by kernel_rfl, ?_⟩) hSX5 ?_
  rotate_left
  · intro w' hw'; obtain ⟨g0, g1⟩ := hw'; go_simp; try with_reducible rfl
  try simp only [Act.put, List.setIfInBounds_toArray, List.set_cons_zero, List.set_cons_succ]
  refine wpAnyH_takeD (some 35) (i := 1) (v := ?_) rfl rfl (by kernel_rfl) (by kernel_rfl) (by kernel_rfl) (fun _ _ _ h => h) (.inl ⟨by kernel_rfl, ?_⟩) hSX5 ?_
  rotate_left
  · intro w' hw'; go_simp; try with_reducible rfl
  try simp only [Act.put, List.setIfInBounds_toArray, List.set_cons_zero, List.set_cons_succ]
  refine wpAnyH_all (rs := [2, 8]) (by kernel_rfl) (by simp) ?_
  intro i hi; simp only [List.mem_cons, List.not_mem_nil, or_false] at hi
  rcases hi with rfl | rfl
  · refine wpOp_step rfl (fun K hK => ?_)
    go_simp
    with_reducible refine (PB.out 40 X5 (H2.out.below (B0.out.trans (QX5.out.mono B0.out.size)) (Nat.le_refl _)) (by omega)).mono ?_
    rintro e X5p ⟨x, x0, x1, rfl, hB⟩
    have R6X5p := hid (R6X5.out.below hB R6X5.out.lt); have QX5p := hid (QX5.out.trans (hB.mono QX5.out.size))
    have wx : IntKind.i64.wrap (1 + x) = 1 + x := IntWalk.i64_in _ (by omega)
    have xb : 1 ≤ 1 + x ∧ 1 + x ≤ 1000 := by omega
    have XB := hid xb
    clear hB x0 x1 xb
    have hSX5p : X5p.cell? ⟨Go, 0, none⟩ = some (.int .i64 X) ∧ X5p.cell? ⟨Go, 1, none⟩ = some (.int .i64 Y) := by
      have c0 := R6X5p.out.cell 0; have c1 := R6X5p.out.cell 1
      simp only [List.getElem?_cons_zero, List.getElem?_cons_succ] at c0 c1
      exact ⟨c0, c1⟩
    refine hK _ _ ⟨hSX5p, ?_⟩
    try simp only [Act.put, List.setIfInBounds_toArray, List.set_cons_zero, List.set_cons_succ]
    clear hK K
    refine wpAnyH_takeD (some 37) (i := 3) (v := ?_) rfl rfl (by kernel_rfl) (by kernel_rfl) (by kernel_rfl) (fun _ _ _ h => h) (.inl ⟨by kernel_rfl, ?_⟩) hSX5p ?_
    rotate_left
    · intro w' hw'; go_simp; try with_reducible rfl
    try simp only [Act.put, List.setIfInBounds_toArray, List.set_cons_zero, List.set_cons_succ]
    refine wpAnyH_all (rs := [4, 8]) (by kernel_rfl) (by simp) ?_
    intro i hi; simp only [List.mem_cons, List.not_mem_nil, or_false] at hi
    rcases hi with rfl | rfl
    · refine wpOp_step rfl (fun K hK => ?_)
      go_simp
      with_reducible refine (NR.out (1 + x) XB.out X5p).mono ?_
      rintro e X5pn ⟨P, D, rfl, hpd, hB⟩
      have R6X5pn := hid (R6X5p.out.below hB R6X5p.out.lt); have QX5pn := hid (QX5p.out.trans (hB.mono QX5p.out.size))
      have HPD := hid hpd
      clear hB hpd
      have hSX5pn : X5pn.cell? ⟨Go, 0, none⟩ = some (.int .i64 X) ∧ X5pn.cell? ⟨Go, 1, none⟩ = some (.int .i64 Y) := by
        have c0 := R6X5pn.out.cell 0; have c1 := R6X5pn.out.cell 1
        simp only [List.getElem?_cons_zero, List.getElem?_cons_succ] at c0 c1
        exact ⟨c0, c1⟩
      refine hK _ _ ⟨hSX5pn, ?_⟩
      try simp only [Act.put, List.setIfInBounds_toArray, List.set_cons_zero, List.set_cons_succ]
      clear hK K
      refine wpAnyH_takeD (some 33) (i := 5) (v := ?_) rfl rfl (by kernel_rfl) (by kernel_rfl) (by kernel_rfl) (fun _ _ _ h => h) (.inl ⟨by kernel_rfl, ?_⟩) hSX5pn ?_
      rotate_left
      · intro w' hw'; go_simp; try with_reducible rfl
      try simp only [Act.put, List.setIfInBounds_toArray, List.set_cons_zero, List.set_cons_succ]
      refine wpAnyH_takeD (some 39) (i := 6) (v := ?_) rfl rfl (by kernel_rfl) (by kernel_rfl) (by kernel_rfl) (fun _ _ _ h => h) (.inl ⟨by kernel_rfl, ?_⟩) hSX5pn ?_
      rotate_left
      · intro w' hw'; go_simp; try with_reducible rfl
      try simp only [Act.put, List.setIfInBounds_toArray, List.set_cons_zero, List.set_cons_succ]
      refine wpAnyH_takeD (some 40) (i := 7) (v := ?_) rfl rfl (by kernel_rfl) (by kernel_rfl) (by kernel_rfl) (fun _ _ _ h => h) (.inl ⟨by kernel_rfl, ?_⟩) hSX5pn ?_
      rotate_left
      · intro w' hw'; go_simp; try with_reducible rfl
      try simp only [Act.put, List.setIfInBounds_toArray, List.set_cons_zero, List.set_cons_succ]
      refine wpAnyH_all (rs := [8]) (by kernel_rfl) (by simp) ?_
      intro i hi; simp only [List.mem_cons, List.not_mem_nil, or_false] at hi
      subst hi
      refine wpOp_step rfl (fun K hK => ?_)
      have r8 := Row.new X5pn 28 [.int .i64 0, .int .i64 0]
      have aa : Below X5pn.heap.size X5pn (X5pn.alloc (.cells #[.int .i64 0, .int .i64 0] 28)) := (Below.refl _ _).alloc (Nat.le_refl _) _
      obtain ⟨Gr, hGr⟩ : ∃ y, X5pn.heap.size = y := ⟨_, rfl⟩
      have hSX5pna : (X5pn.alloc (.cells #[.int .i64 0, .int .i64 0] 28)).cell? ⟨Go, 0, none⟩ = some (.int .i64 X) ∧ (X5pn.alloc (.cells #[.int .i64 0, .int .i64 0] 28)).cell? ⟨Go, 1, none⟩ = some (.int .i64 Y) := ⟨(aa.cell (p := ⟨Go, 0, none⟩) R6X5pn.out.lt).trans hSX5pn.1, (aa.cell (p := ⟨Go, 1, none⟩) R6X5pn.out.lt).trans hSX5pn.2⟩
      go_simp
      refine hK _ _ ⟨hSX5pna, ?_⟩
      try simp only [Act.put, List.setIfInBounds_toArray, List.set_cons_zero, List.set_cons_succ]
      obtain ⟨X5pna, hX5pna⟩ : ∃ X, X = (X5pn.alloc (.cells #[.int .i64 0, .int .i64 0] 28)) := ⟨_, rfl⟩
      rw [← hX5pna] at r8 aa hSX5pna ⊢
      rw [hGr] at r8
      try rw [hGr]
      have R6X5pna := hid (R6X5pn.out.below aa R6X5pn.out.lt); have QX5pna := hid (QX5pn.out.trans (aa.mono QX5pn.out.size))
      have R8X5pna := hid r8
      have HGN := hid (show Go < Gr ∧ w1.heap.size ≤ Gr from ⟨by rw [← hGr]; exact R6X5pn.out.lt, by rw [← hGr]; exact QX5pn.out.size⟩)
      clear r8 aa hGr hX5pna
      clear hK K
      refine wpAnyH_all (rs := [9]) (by kernel_rfl) (by simp) ?_
      intro i hi; simp only [List.mem_cons, List.not_mem_nil, or_false] at hi
      subst hi
      refine wpOp_step rfl (fun K hK => ?_)
      have fw0 := R8X5pna.out.frozen 0; have fw1 := R8X5pna.out.frozen 1; have ow0 := R8X5pna.out.cell 0; have ow1 := R8X5pna.out.cell 1
      simp only [List.getElem?_cons_zero, List.getElem?_cons_succ] at ow0 ow1
      have gne : Gr ≠ Go := by have := HGN.out; omega
      have r6x := (R6X5pna.out.other (a := ⟨Gr, 0, none⟩) gne (.int .i64 P)).other (a := ⟨Gr, 1, none⟩) gne (.int .i64 D)
      have hSS : ((X5pna.setCell ⟨Gr, 0, none⟩ (.int .i64 P)).setCell ⟨Gr, 1, none⟩ (.int .i64 D)).cell? ⟨Go, 0, none⟩ = some (.int .i64 X) ∧ ((X5pna.setCell ⟨Gr, 0, none⟩ (.int .i64 P)).setCell ⟨Gr, 1, none⟩ (.int .i64 D)).cell? ⟨Go, 1, none⟩ = some (.int .i64 Y) := by
        have c0 := r6x.cell 0; have c1 := r6x.cell 1
        simp only [List.getElem?_cons_zero, List.getElem?_cons_succ] at c0 c1
        exact ⟨c0, c1⟩
      go_simp
      refine hK _ _ ⟨hSS, ?_⟩
      try simp only [Act.put, List.setIfInBounds_toArray, List.set_cons_zero, List.set_cons_succ]
      clear fw0 fw1 ow0 ow1
      clear hK K
      refine wpAnyH_takeD (some 9) (i := 10) (v := ?_) rfl rfl (by kernel_rfl) (by kernel_rfl) (by kernel_rfl) (fun _ _ _ h => h) (.inl ⟨by kernel_rfl, ?_⟩) hSS ?_
      rotate_left
      · intro w' hw'; go_simp; try with_reducible rfl
      try simp only [Act.put, List.setIfInBounds_toArray, List.set_cons_zero, List.set_cons_succ]
      refine wpAnyH_done (by kernel_rfl) ?_ _
      have r8x := (R8X5pna.out.set 0 (.int .i64 P)).set 1 (.int .i64 D)
      simp only [List.set_cons_zero, List.set_cons_succ] at r8x
      have bx := (QX5pna.out.setCell (p := ⟨Gr, 0, none⟩) (by show w1.heap.size ≤ Gr; exact HGN.out.2) (.int .i64 P)).setCell (p := ⟨Gr, 1, none⟩) (by show w1.heap.size ≤ Gr; exact HGN.out.2) (.int .i64 D)
      obtain ⟨Z5, hZ5⟩ : ∃ X, X = ((X5pna.setCell ⟨Gr, 0, none⟩ (.int .i64 P)).setCell ⟨Gr, 1, none⟩ (.int .i64 D)) := ⟨_, rfl⟩
      rw [← hZ5] at r8x bx r6x ⊢
      have HRr := hid r8x; have QZ := hid bx; have HRo := hid r6x
      clear r8x bx r6x hSS hZ5 gne
      have ok := okR_out HPD.out.1
      have hi1 : I64 P := ⟨by omega, by omega⟩
      have hi2 : I64 D := ⟨by omega, by omega⟩
      have FI := hid (fun W s => FI.out P D hi1 hi2 HPD.out.1 W s)
      have FS := hid (fun W s => FS.out P D hi1 hi2 HPD.out.1 W s)
      have OF := hid (fun c hc W s => OF.out P D c hi1 hi2 HPD.out.1 hc W s)
      clear ok hi1 hi2 NR PB
      rcases first_cases X Y P D 300 with ⟨k, hk, hf, hz, hne⟩ | ⟨hf, hz⟩
      · rw [hf] at FI FS
        obtain ⟨E, hE⟩ : ∃ E : Nat, k + 1 = E := ⟨_, rfl⟩
        have eE : ((k : Int) + 1) = (E : Int) := by omega
        simp only [eE] at FI FS
        rw [eE] at hne
        have HZ := hid hz; have HNE := hid hne; have HE := hid hE; have hE3 : E ≤ 300 := by omega
        clear hf hz hne hE eE hk
        have r0 := HRr.out.cell 0; have r1 := HRr.out.cell 1
        simp only [List.getElem?_cons_zero, List.getElem?_cons_succ] at r0 r1
        go_wp2_with fail
        with_reducible refine (FI.out Z5 (HST.out.below QZ.out HLT.out)).mono ?_
        rintro e w301 ⟨rfl, hB⟩
        clear r0 r1
        have HRr := hid (HRr.out.below hB HRr.out.lt)
        have HRo := hid (HRo.out.below hB HRo.out.lt)
        have Q302 := hid (QZ.out.trans (hB.mono QZ.out.size))
        clear hB
        have r0 := HRr.out.cell 0; have r1 := HRr.out.cell 1
        simp only [List.getElem?_cons_zero, List.getElem?_cons_succ] at r0 r1
        go_wp2_with fail
        with_reducible refine (FS.out w301 (HST.out.below Q302.out HLT.out)).mono ?_
        rintro e w303 ⟨rfl, hB⟩
        clear r0 r1
        have HRr := hid (HRr.out.below hB HRr.out.lt)
        have HRo := hid (HRo.out.below hB HRo.out.lt)
        have Q304 := hid (Q302.out.trans (hB.mono Q302.out.size))
        clear hB
        have o0 := HRo.out.cell 0; have o1 := HRo.out.cell 1
        simp only [List.getElem?_cons_zero, List.getElem?_cons_succ] at o0 o1
        go_wp2_with fail
        with_reducible refine (FO.out w303 (HST.out.below Q304.out HLT.out)).mono ?_
        rintro e w305 ⟨rfl, hB⟩
        clear o0 o1
        have HRr := hid (HRr.out.below hB HRr.out.lt)
        have HRo := hid (HRo.out.below hB HRo.out.lt)
        have Q306 := hid (Q304.out.trans (hB.mono Q304.out.size))
        clear hB
        have eEE : ((E : Int) != (E : Int)) = false := by simp
        go_upto_region 17 with fail
        go_loopw [17] (fun s17 wr => ∃ c : Nat, c ≤ E + 1 ∧ s17 = .int .i64 c ∧ Below w305.heap.size w305 wr) (fun s17 _ => E + 1 - (intOf s17).toNat)
        case atStart => exact ⟨0, by omega, rfl, Below.refl _ _⟩
        case round =>
          obtain ⟨c, hc1, rfl, qq⟩ := hrel
          by_cases hc : c ≤ E
          · have hc' : (c : Int) ≤ (E : Int) := by omega
            have wc : IntKind.i64.wrap ((c : Int) + 1) = ((c + 1 : Nat) : Int) := by rw [IntWalk.i64_in _ (by omega)]; omega
            have OC := hid (fun W s => OF.out (c : Int) (by omega) W s)
            have QI := hid (Q306.out.trans (qq.mono Q306.out.size)); have QP := hid qq
            have c0 := (HRr.out.below qq HRr.out.lt).cell 0; have c1 := (HRr.out.below qq HRr.out.lt).cell 1
            simp only [List.getElem?_cons_zero, List.getElem?_cons_succ] at c0 c1
            clear qq hc1
            by_cases he : c = E
            · subst he
              obtain ⟨ov, hov⟩ : ∃ y, offI (c : Int) X Y P D = y := ⟨_, rfl⟩
              have hne2 : ov ≠ 0 := by rw [← hov]; exact HNE.out
              rw [hov] at OC
              have e1 : (ov != 0) = true := by simpa using hne2
              have e2 : ((c : Int) == (c : Int)) = true := by simp
              clear hov hne2
              go_wp2_with fail
              with_reducible refine (OC.out wr (HST.out.below QI.out HLT.out)).mono ?_
              rintro e wO ⟨rfl, hB⟩
              have QN := hid (QP.out.trans (hB.mono QP.out.size))
              clear hB c0 c1
              go_wp2_with fail
              go_roundw
              case rel => exact ⟨c + 1, by omega, by first | rfl | exact congrArg (Value.int .i64) (by omega), QN.out⟩
              case measure => first | (simp [intOf]; done) | (simp [intOf]; omega)
            · have hzc : offI (c : Int) X Y P D = 0 := by
                by_cases c00 : c = 0
                · rw [c00]; exact off_zero _ _ _ _
                · have := HZ.out (c - 1) (by have := HE.out; omega)
                  rw [show ((c - 1 : Nat) : Int) + 1 = (c : Int) by omega] at this
                  exact this
              rw [hzc] at OC
              have e2 : ((c : Int) == (E : Int)) = false := by first | (simp; done) | (simp; omega)
              clear hzc
              go_wp2_with fail
              with_reducible refine (OC.out wr (HST.out.below QI.out HLT.out)).mono ?_
              rintro e wO ⟨rfl, hB⟩
              have QN := hid (QP.out.trans (hB.mono QP.out.size))
              clear hB c0 c1
              go_wp2_with fail
              go_roundw
              case rel => exact ⟨c + 1, by omega, by first | rfl | exact congrArg (Value.int .i64) (by omega), QN.out⟩
              case measure => first | (simp [intOf]; done) | (simp [intOf]; omega)
          · have hge : ¬ (c : Int) ≤ (E : Int) := by omega
            have QE := hid (Q306.out.trans (qq.mono Q306.out.size))
            clear qq hc1
            go_wp2_with fail
            go_ret
            exact ⟨rfl, B0.out.trans (QE.out.mono B0.out.size)⟩
      · rw [hf] at FI FS
        have HZ := hid hz
        clear hf hz
        have r0 := HRr.out.cell 0; have r1 := HRr.out.cell 1
        simp only [List.getElem?_cons_zero, List.getElem?_cons_succ] at r0 r1
        go_wp2_with fail
        with_reducible refine (FI.out Z5 (HST.out.below QZ.out HLT.out)).mono ?_
        rintro e w301 ⟨rfl, hB⟩
        clear r0 r1
        have HRr := hid (HRr.out.below hB HRr.out.lt)
        have HRo := hid (HRo.out.below hB HRo.out.lt)
        have Q302 := hid (QZ.out.trans (hB.mono QZ.out.size))
        clear hB
        have r0 := HRr.out.cell 0; have r1 := HRr.out.cell 1
        simp only [List.getElem?_cons_zero, List.getElem?_cons_succ] at r0 r1
        go_wp2_with fail
        with_reducible refine (FS.out w301 (HST.out.below Q302.out HLT.out)).mono ?_
        rintro e w303 ⟨rfl, hB⟩
        clear r0 r1
        have HRr := hid (HRr.out.below hB HRr.out.lt)
        have HRo := hid (HRo.out.below hB HRo.out.lt)
        have Q304 := hid (Q302.out.trans (hB.mono Q302.out.size))
        clear hB
        have o0 := HRo.out.cell 0; have o1 := HRo.out.cell 1
        simp only [List.getElem?_cons_zero, List.getElem?_cons_succ] at o0 o1
        go_wp2_with fail
        with_reducible refine (FO.out w303 (HST.out.below Q304.out HLT.out)).mono ?_
        rintro e w305 ⟨rfl, hB⟩
        clear o0 o1
        have HRr := hid (HRr.out.below hB HRr.out.lt)
        have HRo := hid (HRo.out.below hB HRo.out.lt)
        have Q306 := hid (Q304.out.trans (hB.mono Q304.out.size))
        clear hB
        go_upto_region 17 with fail
        go_loopw [17] (fun s17 wr => ∃ c : Nat, c ≤ 300 + 1 ∧ s17 = .int .i64 c ∧ Below w305.heap.size w305 wr) (fun s17 _ => 300 + 1 - (intOf s17).toNat)
        case atStart => exact ⟨0, by omega, rfl, Below.refl _ _⟩
        case round =>
          obtain ⟨c, hc1, rfl, qq⟩ := hrel
          by_cases hc : c ≤ 300
          · have hc' : (c : Int) ≤ 300 := by omega
            have wc : IntKind.i64.wrap ((c : Int) + 1) = ((c + 1 : Nat) : Int) := by rw [IntWalk.i64_in _ (by omega)]; omega
            have OC := hid (fun W s => OF.out (c : Int) (by omega) W s)
            have QI := hid (Q306.out.trans (qq.mono Q306.out.size)); have QP := hid qq
            have c0 := (HRr.out.below qq HRr.out.lt).cell 0; have c1 := (HRr.out.below qq HRr.out.lt).cell 1
            simp only [List.getElem?_cons_zero, List.getElem?_cons_succ] at c0 c1
            clear qq hc1
            have hzc : offI (c : Int) X Y P D = 0 := by
              by_cases c00 : c = 0
              · rw [c00]; exact off_zero _ _ _ _
              · have := HZ.out (c - 1) (by omega)
                rw [show ((c - 1 : Nat) : Int) + 1 = (c : Int) by omega] at this
                exact this
            rw [hzc] at OC
            clear hzc
            go_wp2_with fail
            with_reducible refine (OC.out wr (HST.out.below QI.out HLT.out)).mono ?_
            rintro e wO ⟨rfl, hB⟩
            have QN := hid (QP.out.trans (hB.mono QP.out.size))
            clear hB c0 c1
            go_wp2_with fail
            go_roundw
            case rel => exact ⟨c + 1, by omega, by first | rfl | exact congrArg (Value.int .i64) (by omega), QN.out⟩
            case measure => first | (simp [intOf]; done) | (simp [intOf]; omega)
          · have hge : ¬ (c : Int) ≤ 300 := by omega
            have QE := hid (Q306.out.trans (qq.mono Q306.out.size))
            clear qq hc1
            go_wp2_with fail
            go_ret
            exact ⟨rfl, B0.out.trans (QE.out.mono B0.out.size)⟩
    · refine wpOp_step rfl (fun K hK => ?_)
      have r8 := Row.new X5p 28 [.int .i64 0, .int .i64 0]
      have aa : Below X5p.heap.size X5p (X5p.alloc (.cells #[.int .i64 0, .int .i64 0] 28)) := (Below.refl _ _).alloc (Nat.le_refl _) _
      obtain ⟨Gr, hGr⟩ : ∃ y, X5p.heap.size = y := ⟨_, rfl⟩
      have hSX5pa : (X5p.alloc (.cells #[.int .i64 0, .int .i64 0] 28)).cell? ⟨Go, 0, none⟩ = some (.int .i64 X) ∧ (X5p.alloc (.cells #[.int .i64 0, .int .i64 0] 28)).cell? ⟨Go, 1, none⟩ = some (.int .i64 Y) := ⟨(aa.cell (p := ⟨Go, 0, none⟩) R6X5p.out.lt).trans hSX5p.1, (aa.cell (p := ⟨Go, 1, none⟩) R6X5p.out.lt).trans hSX5p.2⟩
      go_simp
      refine hK _ _ ⟨hSX5pa, ?_⟩
      try simp only [Act.put, List.setIfInBounds_toArray, List.set_cons_zero, List.set_cons_succ]
      obtain ⟨X5pa, hX5pa⟩ : ∃ X, X = (X5p.alloc (.cells #[.int .i64 0, .int .i64 0] 28)) := ⟨_, rfl⟩
      rw [← hX5pa] at r8 aa hSX5pa ⊢
      rw [hGr] at r8
      try rw [hGr]
      have R6X5pa := hid (R6X5p.out.below aa R6X5p.out.lt); have QX5pa := hid (QX5p.out.trans (aa.mono QX5p.out.size))
      have R8X5pa := hid r8
      have HGN := hid (show Go < Gr ∧ w1.heap.size ≤ Gr from ⟨by rw [← hGr]; exact R6X5p.out.lt, by rw [← hGr]; exact QX5p.out.size⟩)
      clear r8 aa hGr hX5pa
      clear hK K
      refine wpAnyH_all (rs := [4]) (by kernel_rfl) (by simp) ?_
      intro i hi; simp only [List.mem_cons, List.not_mem_nil, or_false] at hi
      subst hi
      refine wpOp_step rfl (fun K hK => ?_)
      go_simp
      with_reducible refine (NR.out (1 + x) XB.out X5pa).mono ?_
      rintro e X5pan ⟨P, D, rfl, hpd, hB⟩
      have R6X5pan := hid (R6X5pa.out.below hB R6X5pa.out.lt); have QX5pan := hid (QX5pa.out.trans (hB.mono QX5pa.out.size))
      have R8X5pan := hid (R8X5pa.out.below hB R8X5pa.out.lt)
      have HPD := hid hpd
      clear hB hpd
      have hSX5pan : X5pan.cell? ⟨Go, 0, none⟩ = some (.int .i64 X) ∧ X5pan.cell? ⟨Go, 1, none⟩ = some (.int .i64 Y) := by
        have c0 := R6X5pan.out.cell 0; have c1 := R6X5pan.out.cell 1
        simp only [List.getElem?_cons_zero, List.getElem?_cons_succ] at c0 c1
        exact ⟨c0, c1⟩
      refine hK _ _ ⟨hSX5pan, ?_⟩
      try simp only [Act.put, List.setIfInBounds_toArray, List.set_cons_zero, List.set_cons_succ]
      clear hK K
      refine wpAnyH_takeD (some 33) (i := 5) (v := ?_) rfl rfl (by kernel_rfl) (by kernel_rfl) (by kernel_rfl) (fun _ _ _ h => h) (.inl ⟨by kernel_rfl, ?_⟩) hSX5pan ?_
      rotate_left
      · intro w' hw'; go_simp; try with_reducible rfl
      try simp only [Act.put, List.setIfInBounds_toArray, List.set_cons_zero, List.set_cons_succ]
      refine wpAnyH_takeD (some 39) (i := 6) (v := ?_) rfl rfl (by kernel_rfl) (by kernel_rfl) (by kernel_rfl) (fun _ _ _ h => h) (.inl ⟨by kernel_rfl, ?_⟩) hSX5pan ?_
      rotate_left
      · intro w' hw'; go_simp; try with_reducible rfl
      try simp only [Act.put, List.setIfInBounds_toArray, List.set_cons_zero, List.set_cons_succ]
      refine wpAnyH_takeD (some 40) (i := 7) (v := ?_) rfl rfl (by kernel_rfl) (by kernel_rfl) (by kernel_rfl) (fun _ _ _ h => h) (.inl ⟨by kernel_rfl, ?_⟩) hSX5pan ?_
      rotate_left
      · intro w' hw'; go_simp; try with_reducible rfl
      try simp only [Act.put, List.setIfInBounds_toArray, List.set_cons_zero, List.set_cons_succ]
      refine wpAnyH_all (rs := [9]) (by kernel_rfl) (by simp) ?_
      intro i hi; simp only [List.mem_cons, List.not_mem_nil, or_false] at hi
      subst hi
      refine wpOp_step rfl (fun K hK => ?_)
      have fw0 := R8X5pan.out.frozen 0; have fw1 := R8X5pan.out.frozen 1; have ow0 := R8X5pan.out.cell 0; have ow1 := R8X5pan.out.cell 1
      simp only [List.getElem?_cons_zero, List.getElem?_cons_succ] at ow0 ow1
      have gne : Gr ≠ Go := by have := HGN.out; omega
      have r6x := (R6X5pan.out.other (a := ⟨Gr, 0, none⟩) gne (.int .i64 P)).other (a := ⟨Gr, 1, none⟩) gne (.int .i64 D)
      have hSS : ((X5pan.setCell ⟨Gr, 0, none⟩ (.int .i64 P)).setCell ⟨Gr, 1, none⟩ (.int .i64 D)).cell? ⟨Go, 0, none⟩ = some (.int .i64 X) ∧ ((X5pan.setCell ⟨Gr, 0, none⟩ (.int .i64 P)).setCell ⟨Gr, 1, none⟩ (.int .i64 D)).cell? ⟨Go, 1, none⟩ = some (.int .i64 Y) := by
        have c0 := r6x.cell 0; have c1 := r6x.cell 1
        simp only [List.getElem?_cons_zero, List.getElem?_cons_succ] at c0 c1
        exact ⟨c0, c1⟩
      go_simp
      refine hK _ _ ⟨hSS, ?_⟩
      try simp only [Act.put, List.setIfInBounds_toArray, List.set_cons_zero, List.set_cons_succ]
      clear fw0 fw1 ow0 ow1
      clear hK K
      refine wpAnyH_takeD (some 9) (i := 10) (v := ?_) rfl rfl (by kernel_rfl) (by kernel_rfl) (by kernel_rfl) (fun _ _ _ h => h) (.inl ⟨by kernel_rfl, ?_⟩) hSS ?_
      rotate_left
      · intro w' hw'; go_simp; try with_reducible rfl
      try simp only [Act.put, List.setIfInBounds_toArray, List.set_cons_zero, List.set_cons_succ]
      refine wpAnyH_done (by kernel_rfl) ?_ _
      have r8x := (R8X5pan.out.set 0 (.int .i64 P)).set 1 (.int .i64 D)
      simp only [List.set_cons_zero, List.set_cons_succ] at r8x
      have bx := (QX5pan.out.setCell (p := ⟨Gr, 0, none⟩) (by show w1.heap.size ≤ Gr; exact HGN.out.2) (.int .i64 P)).setCell (p := ⟨Gr, 1, none⟩) (by show w1.heap.size ≤ Gr; exact HGN.out.2) (.int .i64 D)
      obtain ⟨Z5, hZ5⟩ : ∃ X, X = ((X5pan.setCell ⟨Gr, 0, none⟩ (.int .i64 P)).setCell ⟨Gr, 1, none⟩ (.int .i64 D)) := ⟨_, rfl⟩
      rw [← hZ5] at r8x bx r6x ⊢
      have HRr := hid r8x; have QZ := hid bx; have HRo := hid r6x
      clear r8x bx r6x hSS hZ5 gne
      have ok := okR_out HPD.out.1
      have hi1 : I64 P := ⟨by omega, by omega⟩
      have hi2 : I64 D := ⟨by omega, by omega⟩
      have FI := hid (fun W s => FI.out P D hi1 hi2 HPD.out.1 W s)
      have FS := hid (fun W s => FS.out P D hi1 hi2 HPD.out.1 W s)
      have OF := hid (fun c hc W s => OF.out P D c hi1 hi2 HPD.out.1 hc W s)
      clear ok hi1 hi2 NR PB
      rcases first_cases X Y P D 300 with ⟨k, hk, hf, hz, hne⟩ | ⟨hf, hz⟩
      · rw [hf] at FI FS
        obtain ⟨E, hE⟩ : ∃ E : Nat, k + 1 = E := ⟨_, rfl⟩
        have eE : ((k : Int) + 1) = (E : Int) := by omega
        simp only [eE] at FI FS
        rw [eE] at hne
        have HZ := hid hz; have HNE := hid hne; have HE := hid hE; have hE3 : E ≤ 300 := by omega
        clear hf hz hne hE eE hk
        have r0 := HRr.out.cell 0; have r1 := HRr.out.cell 1
        simp only [List.getElem?_cons_zero, List.getElem?_cons_succ] at r0 r1
        go_wp2_with fail
        with_reducible refine (FI.out Z5 (HST.out.below QZ.out HLT.out)).mono ?_
        rintro e w301 ⟨rfl, hB⟩
        clear r0 r1
        have HRr := hid (HRr.out.below hB HRr.out.lt)
        have HRo := hid (HRo.out.below hB HRo.out.lt)
        have Q302 := hid (QZ.out.trans (hB.mono QZ.out.size))
        clear hB
        have r0 := HRr.out.cell 0; have r1 := HRr.out.cell 1
        simp only [List.getElem?_cons_zero, List.getElem?_cons_succ] at r0 r1
        go_wp2_with fail
        with_reducible refine (FS.out w301 (HST.out.below Q302.out HLT.out)).mono ?_
        rintro e w303 ⟨rfl, hB⟩
        clear r0 r1
        have HRr := hid (HRr.out.below hB HRr.out.lt)
        have HRo := hid (HRo.out.below hB HRo.out.lt)
        have Q304 := hid (Q302.out.trans (hB.mono Q302.out.size))
        clear hB
        have o0 := HRo.out.cell 0; have o1 := HRo.out.cell 1
        simp only [List.getElem?_cons_zero, List.getElem?_cons_succ] at o0 o1
        go_wp2_with fail
        with_reducible refine (FO.out w303 (HST.out.below Q304.out HLT.out)).mono ?_
        rintro e w305 ⟨rfl, hB⟩
        clear o0 o1
        have HRr := hid (HRr.out.below hB HRr.out.lt)
        have HRo := hid (HRo.out.below hB HRo.out.lt)
        have Q306 := hid (Q304.out.trans (hB.mono Q304.out.size))
        clear hB
        have eEE : ((E : Int) != (E : Int)) = false := by simp
        go_upto_region 17 with fail
        go_loopw [17] (fun s17 wr => ∃ c : Nat, c ≤ E + 1 ∧ s17 = .int .i64 c ∧ Below w305.heap.size w305 wr) (fun s17 _ => E + 1 - (intOf s17).toNat)
        case atStart => exact ⟨0, by omega, rfl, Below.refl _ _⟩
        case round =>
          obtain ⟨c, hc1, rfl, qq⟩ := hrel
          by_cases hc : c ≤ E
          · have hc' : (c : Int) ≤ (E : Int) := by omega
            have wc : IntKind.i64.wrap ((c : Int) + 1) = ((c + 1 : Nat) : Int) := by rw [IntWalk.i64_in _ (by omega)]; omega
            have OC := hid (fun W s => OF.out (c : Int) (by omega) W s)
            have QI := hid (Q306.out.trans (qq.mono Q306.out.size)); have QP := hid qq
            have c0 := (HRr.out.below qq HRr.out.lt).cell 0; have c1 := (HRr.out.below qq HRr.out.lt).cell 1
            simp only [List.getElem?_cons_zero, List.getElem?_cons_succ] at c0 c1
            clear qq hc1
            by_cases he : c = E
            · subst he
              obtain ⟨ov, hov⟩ : ∃ y, offI (c : Int) X Y P D = y := ⟨_, rfl⟩
              have hne2 : ov ≠ 0 := by rw [← hov]; exact HNE.out
              rw [hov] at OC
              have e1 : (ov != 0) = true := by simpa using hne2
              have e2 : ((c : Int) == (c : Int)) = true := by simp
              clear hov hne2
              go_wp2_with fail
              with_reducible refine (OC.out wr (HST.out.below QI.out HLT.out)).mono ?_
              rintro e wO ⟨rfl, hB⟩
              have QN := hid (QP.out.trans (hB.mono QP.out.size))
              clear hB c0 c1
              go_wp2_with fail
              go_roundw
              case rel => exact ⟨c + 1, by omega, by first | rfl | exact congrArg (Value.int .i64) (by omega), QN.out⟩
              case measure => first | (simp [intOf]; done) | (simp [intOf]; omega)
            · have hzc : offI (c : Int) X Y P D = 0 := by
                by_cases c00 : c = 0
                · rw [c00]; exact off_zero _ _ _ _
                · have := HZ.out (c - 1) (by have := HE.out; omega)
                  rw [show ((c - 1 : Nat) : Int) + 1 = (c : Int) by omega] at this
                  exact this
              rw [hzc] at OC
              have e2 : ((c : Int) == (E : Int)) = false := by first | (simp; done) | (simp; omega)
              clear hzc
              go_wp2_with fail
              with_reducible refine (OC.out wr (HST.out.below QI.out HLT.out)).mono ?_
              rintro e wO ⟨rfl, hB⟩
              have QN := hid (QP.out.trans (hB.mono QP.out.size))
              clear hB c0 c1
              go_wp2_with fail
              go_roundw
              case rel => exact ⟨c + 1, by omega, by first | rfl | exact congrArg (Value.int .i64) (by omega), QN.out⟩
              case measure => first | (simp [intOf]; done) | (simp [intOf]; omega)
          · have hge : ¬ (c : Int) ≤ (E : Int) := by omega
            have QE := hid (Q306.out.trans (qq.mono Q306.out.size))
            clear qq hc1
            go_wp2_with fail
            go_ret
            exact ⟨rfl, B0.out.trans (QE.out.mono B0.out.size)⟩
      · rw [hf] at FI FS
        have HZ := hid hz
        clear hf hz
        have r0 := HRr.out.cell 0; have r1 := HRr.out.cell 1
        simp only [List.getElem?_cons_zero, List.getElem?_cons_succ] at r0 r1
        go_wp2_with fail
        with_reducible refine (FI.out Z5 (HST.out.below QZ.out HLT.out)).mono ?_
        rintro e w301 ⟨rfl, hB⟩
        clear r0 r1
        have HRr := hid (HRr.out.below hB HRr.out.lt)
        have HRo := hid (HRo.out.below hB HRo.out.lt)
        have Q302 := hid (QZ.out.trans (hB.mono QZ.out.size))
        clear hB
        have r0 := HRr.out.cell 0; have r1 := HRr.out.cell 1
        simp only [List.getElem?_cons_zero, List.getElem?_cons_succ] at r0 r1
        go_wp2_with fail
        with_reducible refine (FS.out w301 (HST.out.below Q302.out HLT.out)).mono ?_
        rintro e w303 ⟨rfl, hB⟩
        clear r0 r1
        have HRr := hid (HRr.out.below hB HRr.out.lt)
        have HRo := hid (HRo.out.below hB HRo.out.lt)
        have Q304 := hid (Q302.out.trans (hB.mono Q302.out.size))
        clear hB
        have o0 := HRo.out.cell 0; have o1 := HRo.out.cell 1
        simp only [List.getElem?_cons_zero, List.getElem?_cons_succ] at o0 o1
        go_wp2_with fail
        with_reducible refine (FO.out w303 (HST.out.below Q304.out HLT.out)).mono ?_
        rintro e w305 ⟨rfl, hB⟩
        clear o0 o1
        have HRr := hid (HRr.out.below hB HRr.out.lt)
        have HRo := hid (HRo.out.below hB HRo.out.lt)
        have Q306 := hid (Q304.out.trans (hB.mono Q304.out.size))
        clear hB
        go_upto_region 17 with fail
        go_loopw [17] (fun s17 wr => ∃ c : Nat, c ≤ 300 + 1 ∧ s17 = .int .i64 c ∧ Below w305.heap.size w305 wr) (fun s17 _ => 300 + 1 - (intOf s17).toNat)
        case atStart => exact ⟨0, by omega, rfl, Below.refl _ _⟩
        case round =>
          obtain ⟨c, hc1, rfl, qq⟩ := hrel
          by_cases hc : c ≤ 300
          · have hc' : (c : Int) ≤ 300 := by omega
            have wc : IntKind.i64.wrap ((c : Int) + 1) = ((c + 1 : Nat) : Int) := by rw [IntWalk.i64_in _ (by omega)]; omega
            have OC := hid (fun W s => OF.out (c : Int) (by omega) W s)
            have QI := hid (Q306.out.trans (qq.mono Q306.out.size)); have QP := hid qq
            have c0 := (HRr.out.below qq HRr.out.lt).cell 0; have c1 := (HRr.out.below qq HRr.out.lt).cell 1
            simp only [List.getElem?_cons_zero, List.getElem?_cons_succ] at c0 c1
            clear qq hc1
            have hzc : offI (c : Int) X Y P D = 0 := by
              by_cases c00 : c = 0
              · rw [c00]; exact off_zero _ _ _ _
              · have := HZ.out (c - 1) (by omega)
                rw [show ((c - 1 : Nat) : Int) + 1 = (c : Int) by omega] at this
                exact this
            rw [hzc] at OC
            clear hzc
            go_wp2_with fail
            with_reducible refine (OC.out wr (HST.out.below QI.out HLT.out)).mono ?_
            rintro e wO ⟨rfl, hB⟩
            have QN := hid (QP.out.trans (hB.mono QP.out.size))
            clear hB c0 c1
            go_wp2_with fail
            go_roundw
            case rel => exact ⟨c + 1, by omega, by first | rfl | exact congrArg (Value.int .i64) (by omega), QN.out⟩
            case measure => first | (simp [intOf]; done) | (simp [intOf]; omega)
          · have hge : ¬ (c : Int) ≤ 300 := by omega
            have QE := hid (Q306.out.trans (qq.mono Q306.out.size))
            clear qq hc1
            go_wp2_with fail
            go_ret
            exact ⟨rfl, B0.out.trans (QE.out.mono B0.out.size)⟩
  · refine wpOp_step rfl (fun K hK => ?_)
    have r8 := Row.new X5 28 [.int .i64 0, .int .i64 0]
    have aa : Below X5.heap.size X5 (X5.alloc (.cells #[.int .i64 0, .int .i64 0] 28)) := (Below.refl _ _).alloc (Nat.le_refl _) _
    obtain ⟨Gr, hGr⟩ : ∃ y, X5.heap.size = y := ⟨_, rfl⟩
    have hSX5a : (X5.alloc (.cells #[.int .i64 0, .int .i64 0] 28)).cell? ⟨Go, 0, none⟩ = some (.int .i64 X) ∧ (X5.alloc (.cells #[.int .i64 0, .int .i64 0] 28)).cell? ⟨Go, 1, none⟩ = some (.int .i64 Y) := ⟨(aa.cell (p := ⟨Go, 0, none⟩) R6X5.out.lt).trans hSX5.1, (aa.cell (p := ⟨Go, 1, none⟩) R6X5.out.lt).trans hSX5.2⟩
    go_simp
    refine hK _ _ ⟨hSX5a, ?_⟩
    try simp only [Act.put, List.setIfInBounds_toArray, List.set_cons_zero, List.set_cons_succ]
    obtain ⟨X5a, hX5a⟩ : ∃ X, X = (X5.alloc (.cells #[.int .i64 0, .int .i64 0] 28)) := ⟨_, rfl⟩
    rw [← hX5a] at r8 aa hSX5a ⊢
    rw [hGr] at r8
    try rw [hGr]
    have R6X5a := hid (R6X5.out.below aa R6X5.out.lt); have QX5a := hid (QX5.out.trans (aa.mono QX5.out.size))
    have R8X5a := hid r8
    have HGN := hid (show Go < Gr ∧ w1.heap.size ≤ Gr from ⟨by rw [← hGr]; exact R6X5.out.lt, by rw [← hGr]; exact QX5.out.size⟩)
    clear r8 aa hGr hX5a
    clear hK K
    refine wpAnyH_all (rs := [2]) (by kernel_rfl) (by simp) ?_
    intro i hi; simp only [List.mem_cons, List.not_mem_nil, or_false] at hi
    subst hi
    refine wpOp_step rfl (fun K hK => ?_)
    go_simp
    with_reducible refine (PB.out 40 X5a (H2.out.below (B0.out.trans (QX5a.out.mono B0.out.size)) (Nat.le_refl _)) (by omega)).mono ?_
    rintro e X5ap ⟨x, x0, x1, rfl, hB⟩
    have R6X5ap := hid (R6X5a.out.below hB R6X5a.out.lt); have QX5ap := hid (QX5a.out.trans (hB.mono QX5a.out.size))
    have R8X5ap := hid (R8X5a.out.below hB R8X5a.out.lt)
    have wx : IntKind.i64.wrap (1 + x) = 1 + x := IntWalk.i64_in _ (by omega)
    have xb : 1 ≤ 1 + x ∧ 1 + x ≤ 1000 := by omega
    have XB := hid xb
    clear hB x0 x1 xb
    have hSX5ap : X5ap.cell? ⟨Go, 0, none⟩ = some (.int .i64 X) ∧ X5ap.cell? ⟨Go, 1, none⟩ = some (.int .i64 Y) := by
      have c0 := R6X5ap.out.cell 0; have c1 := R6X5ap.out.cell 1
      simp only [List.getElem?_cons_zero, List.getElem?_cons_succ] at c0 c1
      exact ⟨c0, c1⟩
    refine hK _ _ ⟨hSX5ap, ?_⟩
    try simp only [Act.put, List.setIfInBounds_toArray, List.set_cons_zero, List.set_cons_succ]
    clear hK K
    refine wpAnyH_takeD (some 37) (i := 3) (v := ?_) rfl rfl (by kernel_rfl) (by kernel_rfl) (by kernel_rfl) (fun _ _ _ h => h) (.inl ⟨by kernel_rfl, ?_⟩) hSX5ap ?_
    rotate_left
    · intro w' hw'; go_simp; try with_reducible rfl
    try simp only [Act.put, List.setIfInBounds_toArray, List.set_cons_zero, List.set_cons_succ]
    refine wpAnyH_all (rs := [4]) (by kernel_rfl) (by simp) ?_
    intro i hi; simp only [List.mem_cons, List.not_mem_nil, or_false] at hi
    subst hi
    refine wpOp_step rfl (fun K hK => ?_)
    go_simp
    with_reducible refine (NR.out (1 + x) XB.out X5ap).mono ?_
    rintro e X5apn ⟨P, D, rfl, hpd, hB⟩
    have R6X5apn := hid (R6X5ap.out.below hB R6X5ap.out.lt); have QX5apn := hid (QX5ap.out.trans (hB.mono QX5ap.out.size))
    have R8X5apn := hid (R8X5ap.out.below hB R8X5ap.out.lt)
    have HPD := hid hpd
    clear hB hpd
    have hSX5apn : X5apn.cell? ⟨Go, 0, none⟩ = some (.int .i64 X) ∧ X5apn.cell? ⟨Go, 1, none⟩ = some (.int .i64 Y) := by
      have c0 := R6X5apn.out.cell 0; have c1 := R6X5apn.out.cell 1
      simp only [List.getElem?_cons_zero, List.getElem?_cons_succ] at c0 c1
      exact ⟨c0, c1⟩
    refine hK _ _ ⟨hSX5apn, ?_⟩
    try simp only [Act.put, List.setIfInBounds_toArray, List.set_cons_zero, List.set_cons_succ]
    clear hK K
    refine wpAnyH_takeD (some 33) (i := 5) (v := ?_) rfl rfl (by kernel_rfl) (by kernel_rfl) (by kernel_rfl) (fun _ _ _ h => h) (.inl ⟨by kernel_rfl, ?_⟩) hSX5apn ?_
    rotate_left
    · intro w' hw'; go_simp; try with_reducible rfl
    try simp only [Act.put, List.setIfInBounds_toArray, List.set_cons_zero, List.set_cons_succ]
    refine wpAnyH_takeD (some 39) (i := 6) (v := ?_) rfl rfl (by kernel_rfl) (by kernel_rfl) (by kernel_rfl) (fun _ _ _ h => h) (.inl ⟨by kernel_rfl, ?_⟩) hSX5apn ?_
    rotate_left
    · intro w' hw'; go_simp; try with_reducible rfl
    try simp only [Act.put, List.setIfInBounds_toArray, List.set_cons_zero, List.set_cons_succ]
    refine wpAnyH_takeD (some 40) (i := 7) (v := ?_) rfl rfl (by kernel_rfl) (by kernel_rfl) (by kernel_rfl) (fun _ _ _ h => h) (.inl ⟨by kernel_rfl, ?_⟩) hSX5apn ?_
    rotate_left
    · intro w' hw'; go_simp; try with_reducible rfl
    try simp only [Act.put, List.setIfInBounds_toArray, List.set_cons_zero, List.set_cons_succ]
    refine wpAnyH_all (rs := [9]) (by kernel_rfl) (by simp) ?_
    intro i hi; simp only [List.mem_cons, List.not_mem_nil, or_false] at hi
    subst hi
    refine wpOp_step rfl (fun K hK => ?_)
    have fw0 := R8X5apn.out.frozen 0; have fw1 := R8X5apn.out.frozen 1; have ow0 := R8X5apn.out.cell 0; have ow1 := R8X5apn.out.cell 1
    simp only [List.getElem?_cons_zero, List.getElem?_cons_succ] at ow0 ow1
    have gne : Gr ≠ Go := by have := HGN.out; omega
    have r6x := (R6X5apn.out.other (a := ⟨Gr, 0, none⟩) gne (.int .i64 P)).other (a := ⟨Gr, 1, none⟩) gne (.int .i64 D)
    have hSS : ((X5apn.setCell ⟨Gr, 0, none⟩ (.int .i64 P)).setCell ⟨Gr, 1, none⟩ (.int .i64 D)).cell? ⟨Go, 0, none⟩ = some (.int .i64 X) ∧ ((X5apn.setCell ⟨Gr, 0, none⟩ (.int .i64 P)).setCell ⟨Gr, 1, none⟩ (.int .i64 D)).cell? ⟨Go, 1, none⟩ = some (.int .i64 Y) := by
      have c0 := r6x.cell 0; have c1 := r6x.cell 1
      simp only [List.getElem?_cons_zero, List.getElem?_cons_succ] at c0 c1
      exact ⟨c0, c1⟩
    go_simp
    refine hK _ _ ⟨hSS, ?_⟩
    try simp only [Act.put, List.setIfInBounds_toArray, List.set_cons_zero, List.set_cons_succ]
    clear fw0 fw1 ow0 ow1
    clear hK K
    refine wpAnyH_takeD (some 9) (i := 10) (v := ?_) rfl rfl (by kernel_rfl) (by kernel_rfl) (by kernel_rfl) (fun _ _ _ h => h) (.inl ⟨by kernel_rfl, ?_⟩) hSS ?_
    rotate_left
    · intro w' hw'; go_simp; try with_reducible rfl
    try simp only [Act.put, List.setIfInBounds_toArray, List.set_cons_zero, List.set_cons_succ]
    refine wpAnyH_done (by kernel_rfl) ?_ _
    have r8x := (R8X5apn.out.set 0 (.int .i64 P)).set 1 (.int .i64 D)
    simp only [List.set_cons_zero, List.set_cons_succ] at r8x
    have bx := (QX5apn.out.setCell (p := ⟨Gr, 0, none⟩) (by show w1.heap.size ≤ Gr; exact HGN.out.2) (.int .i64 P)).setCell (p := ⟨Gr, 1, none⟩) (by show w1.heap.size ≤ Gr; exact HGN.out.2) (.int .i64 D)
    obtain ⟨Z5, hZ5⟩ : ∃ X, X = ((X5apn.setCell ⟨Gr, 0, none⟩ (.int .i64 P)).setCell ⟨Gr, 1, none⟩ (.int .i64 D)) := ⟨_, rfl⟩
    rw [← hZ5] at r8x bx r6x ⊢
    have HRr := hid r8x; have QZ := hid bx; have HRo := hid r6x
    clear r8x bx r6x hSS hZ5 gne
    have ok := okR_out HPD.out.1
    have hi1 : I64 P := ⟨by omega, by omega⟩
    have hi2 : I64 D := ⟨by omega, by omega⟩
    have FI := hid (fun W s => FI.out P D hi1 hi2 HPD.out.1 W s)
    have FS := hid (fun W s => FS.out P D hi1 hi2 HPD.out.1 W s)
    have OF := hid (fun c hc W s => OF.out P D c hi1 hi2 HPD.out.1 hc W s)
    clear ok hi1 hi2 NR PB
    rcases first_cases X Y P D 300 with ⟨k, hk, hf, hz, hne⟩ | ⟨hf, hz⟩
    · rw [hf] at FI FS
      obtain ⟨E, hE⟩ : ∃ E : Nat, k + 1 = E := ⟨_, rfl⟩
      have eE : ((k : Int) + 1) = (E : Int) := by omega
      simp only [eE] at FI FS
      rw [eE] at hne
      have HZ := hid hz; have HNE := hid hne; have HE := hid hE; have hE3 : E ≤ 300 := by omega
      clear hf hz hne hE eE hk
      have r0 := HRr.out.cell 0; have r1 := HRr.out.cell 1
      simp only [List.getElem?_cons_zero, List.getElem?_cons_succ] at r0 r1
      go_wp2_with fail
      with_reducible refine (FI.out Z5 (HST.out.below QZ.out HLT.out)).mono ?_
      rintro e w301 ⟨rfl, hB⟩
      clear r0 r1
      have HRr := hid (HRr.out.below hB HRr.out.lt)
      have HRo := hid (HRo.out.below hB HRo.out.lt)
      have Q302 := hid (QZ.out.trans (hB.mono QZ.out.size))
      clear hB
      have r0 := HRr.out.cell 0; have r1 := HRr.out.cell 1
      simp only [List.getElem?_cons_zero, List.getElem?_cons_succ] at r0 r1
      go_wp2_with fail
      with_reducible refine (FS.out w301 (HST.out.below Q302.out HLT.out)).mono ?_
      rintro e w303 ⟨rfl, hB⟩
      clear r0 r1
      have HRr := hid (HRr.out.below hB HRr.out.lt)
      have HRo := hid (HRo.out.below hB HRo.out.lt)
      have Q304 := hid (Q302.out.trans (hB.mono Q302.out.size))
      clear hB
      have o0 := HRo.out.cell 0; have o1 := HRo.out.cell 1
      simp only [List.getElem?_cons_zero, List.getElem?_cons_succ] at o0 o1
      go_wp2_with fail
      with_reducible refine (FO.out w303 (HST.out.below Q304.out HLT.out)).mono ?_
      rintro e w305 ⟨rfl, hB⟩
      clear o0 o1
      have HRr := hid (HRr.out.below hB HRr.out.lt)
      have HRo := hid (HRo.out.below hB HRo.out.lt)
      have Q306 := hid (Q304.out.trans (hB.mono Q304.out.size))
      clear hB
      have eEE : ((E : Int) != (E : Int)) = false := by simp
      go_upto_region 17 with fail
      go_loopw [17] (fun s17 wr => ∃ c : Nat, c ≤ E + 1 ∧ s17 = .int .i64 c ∧ Below w305.heap.size w305 wr) (fun s17 _ => E + 1 - (intOf s17).toNat)
      case atStart => exact ⟨0, by omega, rfl, Below.refl _ _⟩
      case round =>
        obtain ⟨c, hc1, rfl, qq⟩ := hrel
        by_cases hc : c ≤ E
        · have hc' : (c : Int) ≤ (E : Int) := by omega
          have wc : IntKind.i64.wrap ((c : Int) + 1) = ((c + 1 : Nat) : Int) := by rw [IntWalk.i64_in _ (by omega)]; omega
          have OC := hid (fun W s => OF.out (c : Int) (by omega) W s)
          have QI := hid (Q306.out.trans (qq.mono Q306.out.size)); have QP := hid qq
          have c0 := (HRr.out.below qq HRr.out.lt).cell 0; have c1 := (HRr.out.below qq HRr.out.lt).cell 1
          simp only [List.getElem?_cons_zero, List.getElem?_cons_succ] at c0 c1
          clear qq hc1
          by_cases he : c = E
          · subst he
            obtain ⟨ov, hov⟩ : ∃ y, offI (c : Int) X Y P D = y := ⟨_, rfl⟩
            have hne2 : ov ≠ 0 := by rw [← hov]; exact HNE.out
            rw [hov] at OC
            have e1 : (ov != 0) = true := by simpa using hne2
            have e2 : ((c : Int) == (c : Int)) = true := by simp
            clear hov hne2
            go_wp2_with fail
            with_reducible refine (OC.out wr (HST.out.below QI.out HLT.out)).mono ?_
            rintro e wO ⟨rfl, hB⟩
            have QN := hid (QP.out.trans (hB.mono QP.out.size))
            clear hB c0 c1
            go_wp2_with fail
            go_roundw
            case rel => exact ⟨c + 1, by omega, by first | rfl | exact congrArg (Value.int .i64) (by omega), QN.out⟩
            case measure => first | (simp [intOf]; done) | (simp [intOf]; omega)
          · have hzc : offI (c : Int) X Y P D = 0 := by
              by_cases c00 : c = 0
              · rw [c00]; exact off_zero _ _ _ _
              · have := HZ.out (c - 1) (by have := HE.out; omega)
                rw [show ((c - 1 : Nat) : Int) + 1 = (c : Int) by omega] at this
                exact this
            rw [hzc] at OC
            have e2 : ((c : Int) == (E : Int)) = false := by first | (simp; done) | (simp; omega)
            clear hzc
            go_wp2_with fail
            with_reducible refine (OC.out wr (HST.out.below QI.out HLT.out)).mono ?_
            rintro e wO ⟨rfl, hB⟩
            have QN := hid (QP.out.trans (hB.mono QP.out.size))
            clear hB c0 c1
            go_wp2_with fail
            go_roundw
            case rel => exact ⟨c + 1, by omega, by first | rfl | exact congrArg (Value.int .i64) (by omega), QN.out⟩
            case measure => first | (simp [intOf]; done) | (simp [intOf]; omega)
        · have hge : ¬ (c : Int) ≤ (E : Int) := by omega
          have QE := hid (Q306.out.trans (qq.mono Q306.out.size))
          clear qq hc1
          go_wp2_with fail
          go_ret
          exact ⟨rfl, B0.out.trans (QE.out.mono B0.out.size)⟩
    · rw [hf] at FI FS
      have HZ := hid hz
      clear hf hz
      have r0 := HRr.out.cell 0; have r1 := HRr.out.cell 1
      simp only [List.getElem?_cons_zero, List.getElem?_cons_succ] at r0 r1
      go_wp2_with fail
      with_reducible refine (FI.out Z5 (HST.out.below QZ.out HLT.out)).mono ?_
      rintro e w301 ⟨rfl, hB⟩
      clear r0 r1
      have HRr := hid (HRr.out.below hB HRr.out.lt)
      have HRo := hid (HRo.out.below hB HRo.out.lt)
      have Q302 := hid (QZ.out.trans (hB.mono QZ.out.size))
      clear hB
      have r0 := HRr.out.cell 0; have r1 := HRr.out.cell 1
      simp only [List.getElem?_cons_zero, List.getElem?_cons_succ] at r0 r1
      go_wp2_with fail
      with_reducible refine (FS.out w301 (HST.out.below Q302.out HLT.out)).mono ?_
      rintro e w303 ⟨rfl, hB⟩
      clear r0 r1
      have HRr := hid (HRr.out.below hB HRr.out.lt)
      have HRo := hid (HRo.out.below hB HRo.out.lt)
      have Q304 := hid (Q302.out.trans (hB.mono Q302.out.size))
      clear hB
      have o0 := HRo.out.cell 0; have o1 := HRo.out.cell 1
      simp only [List.getElem?_cons_zero, List.getElem?_cons_succ] at o0 o1
      go_wp2_with fail
      with_reducible refine (FO.out w303 (HST.out.below Q304.out HLT.out)).mono ?_
      rintro e w305 ⟨rfl, hB⟩
      clear o0 o1
      have HRr := hid (HRr.out.below hB HRr.out.lt)
      have HRo := hid (HRo.out.below hB HRo.out.lt)
      have Q306 := hid (Q304.out.trans (hB.mono Q304.out.size))
      clear hB
      go_upto_region 17 with fail
      go_loopw [17] (fun s17 wr => ∃ c : Nat, c ≤ 300 + 1 ∧ s17 = .int .i64 c ∧ Below w305.heap.size w305 wr) (fun s17 _ => 300 + 1 - (intOf s17).toNat)
      case atStart => exact ⟨0, by omega, rfl, Below.refl _ _⟩
      case round =>
        obtain ⟨c, hc1, rfl, qq⟩ := hrel
        by_cases hc : c ≤ 300
        · have hc' : (c : Int) ≤ 300 := by omega
          have wc : IntKind.i64.wrap ((c : Int) + 1) = ((c + 1 : Nat) : Int) := by rw [IntWalk.i64_in _ (by omega)]; omega
          have OC := hid (fun W s => OF.out (c : Int) (by omega) W s)
          have QI := hid (Q306.out.trans (qq.mono Q306.out.size)); have QP := hid qq
          have c0 := (HRr.out.below qq HRr.out.lt).cell 0; have c1 := (HRr.out.below qq HRr.out.lt).cell 1
          simp only [List.getElem?_cons_zero, List.getElem?_cons_succ] at c0 c1
          clear qq hc1
          have hzc : offI (c : Int) X Y P D = 0 := by
            by_cases c00 : c = 0
            · rw [c00]; exact off_zero _ _ _ _
            · have := HZ.out (c - 1) (by omega)
              rw [show ((c - 1 : Nat) : Int) + 1 = (c : Int) by omega] at this
              exact this
          rw [hzc] at OC
          clear hzc
          go_wp2_with fail
          with_reducible refine (OC.out wr (HST.out.below QI.out HLT.out)).mono ?_
          rintro e wO ⟨rfl, hB⟩
          have QN := hid (QP.out.trans (hB.mono QP.out.size))
          clear hB c0 c1
          go_wp2_with fail
          go_roundw
          case rel => exact ⟨c + 1, by omega, by first | rfl | exact congrArg (Value.int .i64) (by omega), QN.out⟩
          case measure => first | (simp [intOf]; done) | (simp [intOf]; omega)
        · have hge : ¬ (c : Int) ≤ 300 := by omega
          have QE := hid (Q306.out.trans (qq.mono Q306.out.size))
          clear qq hc1
          go_wp2_with fail
          go_ret
          exact ⟨rfl, B0.out.trans (QE.out.mono B0.out.size)⟩
set_option maxRecDepth 100000 in
set_option maxHeartbeats 1000000 in
theorem law_FnOff (a : Option Addr) (len cap : Nat) (zs : List Int) (a' : Option Addr) (len' cap' : Nat) (zs' : List Int) (w : World) (h : InB w a len zs) (h' : InB w a' len' zs') :
    Calls Try.prog 3 #[.slice a len cap, .slice a' len' cap'] w fun e w' => e = .returned (.bool true) ∧ Below w.heap.size w w' := by
  by_cases hl : len ≤ 4096
  · by_cases hl' : len' ≤ 4096
    · exact law_FnOff_in a len cap zs a' len' cap' zs' w h h' hl hl'
    · have F1 := hid (f6big_no a len cap w hl); have F2 := hid (f6big_yes a' len' cap' w (by omega))
      clear h h' hl hl'
      go_enter Try.func3, Try.ntmps3
      go_wp2_with fail
      refine F1.out.mono ?_
      rintro e w1 ⟨rfl, hw⟩
      subst hw
      go_wp2_with fail
      refine F2.out.mono ?_
      rintro e w2 ⟨rfl, hw⟩
      subst hw
      go_wp2_with fail
      go_ret
      exact ⟨rfl, Below.refl _ _⟩
  · have F1 := hid (f6big_yes a len cap w (by omega))
    clear h h' hl
    go_enter Try.func3, Try.ntmps3
    go_wp2_with fail
    refine F1.out.mono ?_
    rintro e w1 ⟨rfl, hw⟩
    subst hw
    go_wp2_with fail
    go_ret
    exact ⟨rfl, Below.refl _ _⟩
end Go.Proofs.Ytdlcbfoghpoliaa
