/- The texts of numbers, the last one first; the program's. -/
import Derived.Test.YtfifnngdmhdkiaaGreatDoorTxB
import Derived.Lib.Join
namespace Go.Proofs.YtfifnngdmhdkiaaGreatDoor
open Go.RowKit Go.Shelf
set_option linter.unusedVariables false
set_option linter.unusedSimpArgs false
/-- the text of the wheel j, at a width of its own -/
def txP (zs : List Int) (wd : Nat → Nat) (j : Nat) : List UInt8 := padZ (wd j) (Lib.itoa (ug zs j))
def txL {n : Nat} (zs : List Int) (wd : Nat → Nat) (pre : List (Fin n)) : List ByteArray := pre.map fun x => ⟨(txP zs wd (n - 1 - x.1)).toArray⟩
def txT (zs : List Int) (wd : Nat → Nat) : List UInt8 := Lib.join ((txL zs wd (List.finRange zs.length)).map (·.data.toList)) [58]
theorem owns_ne {w : World} {base size n g : Nat} {e e' : TypeId} {v : Value} {xs ys : List Value} (h : w.ownsRow base e size v n xs) (hr : Row w g e' ys) (hne : e ≠ e') : some g ≠ v.ownBlock := fun he => by
  rcases h.2 with ⟨rfl, _⟩ | ⟨g', cap, cur, rfl, h2, h3, _⟩
  · cases he
  · have : g = g' := Option.some.inj he
    subst this
    rw [hr] at h3
    simp only [Option.some.injEq, Obj.cells.injEq] at h3
    exact hne h3.2.1.symm
section
attribute [local go_sem] Oper.semAt_some
theorem owns_other {w : World} {base size n g : Nat} {e e' : TypeId} {v : Value} {xs ys : List Value} (h : w.ownsRow base e size v n xs) (hr : Row w g e' ys) (hne : e ≠ e') (u : Value) : (w.setCell ⟨g, 0, none⟩ u).ownsRow base e size v n xs := by
  have hn := owns_ne h hr hne
  refine ⟨h.1, ?_⟩
  rcases h.2 with h0 | ⟨g', cap, cur, rfl, h2, h3, h4⟩
  · exact .inl h0
  · exact .inr ⟨g', cap, cur, rfl, h2, (Below.heap_setCell w ⟨g, 0, none⟩ u g' (fun e => hn (congrArg some e.symm))).trans h3, h4⟩
theorem own_cap {w : World} {base n g cap k : Nat} {e : TypeId} {xs : List Value} (h : w.ownsRow base e 1 (.slice (some ⟨g, 0, none⟩) k cap) n xs) : n ≤ cap := by
  rcases h.2 with ⟨h', _⟩ | ⟨g', cap', cur, h', hb, hg, hnc, _⟩
  · simp at h'
  · simp only [Value.slice.injEq, Option.some.injEq, Addr.mk.injEq, and_true, true_and] at h'
    obtain ⟨_, _, rfl⟩ := h'
    exact hnc
theorem own_cells {w : World} {base n g cap k : Nat} {e : TypeId} {ss : List ByteArray} (h : w.ownsRow base e 1 (.slice (some ⟨g, 0, none⟩) k cap) n (ss.map Value.string)) : ∀ (j : Nat) x, ss[j]? = some x → w.cell? ⟨g, 0 + j, none⟩ = some (.string x) := fun j x hj => by
  rcases h.2 with ⟨h', _⟩ | ⟨g', cap', cur, h', hb, hg, hnc, hcm, hcs, htake⟩
  · simp at h'
  · simp only [Value.slice.injEq, Option.some.injEq, Addr.mk.injEq, and_true, true_and] at h'
    obtain ⟨rfl, _, _⟩ := h'
    rw [cell_of_row w g (0 + j) _ e (0, 0) hg]
    have : (cur.toList.take (n * 1))[j]? = some (.string x) := by rw [htake]; simp [hj]
    rw [List.getElem?_take] at this
    split at this
    · simpa using this
    · cases this
set_option maxRecDepth 100000 in
set_option maxHeartbeats 4000000 in
theorem textLFD_any (cb : Nat) (b n cap : Nat) (zs : List Int) (hn : n = zs.length) (h1n : 1 ≤ n) (wd : Nat → Nat) (w : World) (hS : Stk w b zs)
    (hF : ∀ (k : Nat) W, k < n → Below w.heap.size w W → Calls Tryz.prog 41 #[.int .i64 (k : Int), .pointer (some ⟨cb, 0, none⟩)] W fun e w' => e = .returned (.int .i64 ((wd k : Nat) : Int)) ∧ Below W.heap.size W w')
    (hD : ∀ (k : Nat) W, k < n → Below w.heap.size w W → Calls Tryz.prog 42 #[.int .u8 (ug zs k), .int .i64 ((wd k : Nat) : Int)] W fun e w' => e = .returned (.string ⟨(txP zs wd k).toArray⟩) ∧ Below W.heap.size W w')
    (hlen : (txT zs wd).length ≤ 1000000) :
    Calls Tryz.prog 39 #[.slice (some ⟨b, 0, none⟩) n cap, .func (.func 41) #[] #[.pointer (some ⟨cb, 0, none⟩)]] w fun e w' => e = .returned (.string ⟨(txT zs wd).toArray⟩) ∧ Below w.heap.size w w' := by
  obtain ⟨i0, hi, iz0, iz1, iz2⟩ := info_parts Tryz.infoStr
  have hle := hS.2.2.2
  rw [← hn] at hle
  have hC := hid hS.2.1
  have hbl := hS.1
  have hm : 1 ≤ 8 := by omega
  have hN := hid hn
  have HF := hid hF
  have HD := hid hD
  have HL := hid hlen
  clear hS hn hF hD hlen
  have g3 : Fence.wide.fn 58 := trivial
  have g4 : Fence.wide.fn 59 := trivial
  have qF := Row.new w 61 [.func (.func 41) #[] #[.pointer (some ⟨cb, 0, none⟩)]]
  refine (callsIn_wide (n := 8)).1 ?_
  refine callsIn_of_wp_marks Tryz.func39 rfl trivial ?_ rfl
  simp only [Tryz.ntmps39, List.size_toArray, List.length_cons, List.length_nil, Nat.reduceAdd, Nat.reduceSub, Array.replicate_succ, Array.replicate_zero, List.push_toArray, List.append_toArray, List.nil_append, List.cons_append]
  gi_wp2_with (first | (gi_at_make; refine wpListIn_make_own _ rfl _ _ 73 rfl (w.heap.size + 1) 9 i0 (.string ⟨#[]⟩) 1 Tryz.underlying73 hi iz0 iz1 .i64 .i64 (n : Int) n rfl rfl rfl (by rw [iz2]; omega) (by unfold maxLen; omega) (by simp) ?_; intro w1 hown1 hg1; simp only [World.size_alloc] at hown1) | (gi_at_call 58; refine (bu_in Fence.wide _ trivial rfl _ _ _ _).mono ?_; rintro e w' ⟨rfl, rfl⟩))
  have hz1 := hg1.size
  simp only [World.size_alloc] at hz1
  have b1 : Below w.heap.size w w1 := ((Below.refl w.heap.size w).alloc (Nat.le_refl _) (.cells #[.func (.func 41) #[] #[.pointer (some ⟨cb, 0, none⟩)]] 61)).grown hg1 (by simp) (fun k e => by cases e)
  have p1 := qF.grown' hg1 (by simp)
  have p2 := Row.new w1 73 [.slice (some ⟨w.heap.size + 1, 0, none⟩) 0 n]
  have p0 := Row.new (w1.alloc (.cells #[.slice (some ⟨w.heap.size + 1, 0, none⟩) 0 n] 73)) 22 [.slice (some ⟨b, 0, none⟩) n cap]
  simp only [World.size_alloc] at p0
  have q1 := (p1.alloc (.cells #[.slice (some ⟨w.heap.size + 1, 0, none⟩) 0 n] 73)).alloc (.cells #[.slice (some ⟨b, 0, none⟩) n cap] 22)
  have q2 := p2.alloc (.cells #[.slice (some ⟨b, 0, none⟩) n cap] 22)
  have q0 := p0
  have OV := (hown1.alloc (.cells #[.slice (some ⟨w.heap.size + 1, 0, none⟩) 0 n] 73)).alloc (.cells #[.slice (some ⟨b, 0, none⟩) n cap] 22)
  have bV : Below w.heap.size w ((w1.alloc (.cells #[.slice (some ⟨w.heap.size + 1, 0, none⟩) 0 n] 73)).alloc (.cells #[.slice (some ⟨b, 0, none⟩) n cap] 22)) := (b1.alloc b1.size _).alloc (by simp; omega) _
  have sV : ((w1.alloc (.cells #[.slice (some ⟨w.heap.size + 1, 0, none⟩) 0 n] 73)).alloc (.cells #[.slice (some ⟨b, 0, none⟩) n cap] 22)).heap.size = w1.heap.size + 1 + 1 := by simp
  obtain ⟨V, hV⟩ : ∃ V, V = (w1.alloc (.cells #[.slice (some ⟨w.heap.size + 1, 0, none⟩) 0 n] 73)).alloc (.cells #[.slice (some ⟨b, 0, none⟩) n cap] 22) := ⟨_, rfl⟩
  rw [← hV] at q0 q1 q2 OV bV sV ⊢
  clear hV p0 p1 p2 b1 hown1 hg1 qF
  obtain ⟨PB, hPB⟩ : ∃ y, w1.heap.size = y := ⟨_, rfl⟩
  rw [hPB] at q0 q2 sV hz1 ⊢
  clear hPB
  have cB := q0.cell 0
  simp only [List.getElem?_cons_zero] at cB
  have hsl : ∀ g, g = b ∨ g = PB + 1 → g < V.heap.size := fun g hg => by rcases hg with rfl | rfl <;> omega
  have hcV : ∀ j, j < n → V.cell? ⟨b, j, none⟩ = some (.int .u8 (ug zs j)) := fun j hj => (bV.cell (p := ⟨b, j, none⟩) hbl).trans (hC.out j (by rw [← hN.out]; exact hj))
  have HSL := hid hsl
  have HNOT := hid hN.out
  refine wpIn_rangeFunc_ownH rfl hm (gf := 70) (lb := #[.pointer (some ⟨PB + 1, 0, none⟩)]) rfl trivial (enters_of Tryz.func70 (by kernel_rfl) rfl)
    (bu_stops Fence.wide 7 trivial rfl (by omega) (PB + 1) b n cap zs hN.out hle V (by omega) (by omega) cB hcV) KeepB.trans (keepB_b HSL.out) (Below.refl _ _) (fun _ => rfl)
    (fun pre W => (∃ v, (Row W w.heap.size 61 [.func (.func 41) #[] #[.pointer (some ⟨cb, 0, none⟩)]] ∧ Row W PB 73 [v] ∧ Row W (PB + 1) 22 [.slice (some ⟨b, 0, none⟩) n cap]) ∧ W.ownsRow (w.heap.size + 1) 9 1 v pre.length ((txL zs wd pre).map Value.string)) ∧ (Below w.heap.size w W ∧ V.heap.size ≤ W.heap.size))
    (fun _ _ _ => False)
    (OwnFrom.and (Own.from (fun s A B row hs hg hr => by obtain ⟨v, ⟨h1, h2, h0⟩, h3⟩ := hs; exact ⟨v, ⟨row_kept h1 hg hr, row_kept h2 hg hr, row_kept h0 hg hr⟩, owns_kept h3 hg hr⟩) _) (OwnFrom.and (ownFrom_below (Nat.le_refl _) (by omega)) (fun s A B row hs hg hr => Nat.le_trans hs hg.4)))
    (fun _ _ _ _ _ hs _ _ => hs)
    ⟨⟨_, ⟨q1, q2, q0⟩, OV⟩, bV, Nat.le_refl _⟩
    (fun x a' W => a' = { tmps := #[.slice (some ⟨b, 0, none⟩) n cap, .func (.func 41) #[] #[.pointer (some ⟨cb, 0, none⟩)], undef, .pointer (some ⟨w.heap.size, 0, none⟩), .string ⟨#[]⟩, .pointer (some ⟨PB, 0, none⟩), .int .i64 ((n - 1 - x.1 : Nat) : Int), .int .u8 (ug zs (n - 1 - x.1)), .slice (some ⟨b, 0, none⟩) n cap, .int .i64 (n : Int), .slice (some ⟨w.heap.size + 1, 0, none⟩) 0 n, .slice (some ⟨b, 0, none⟩) n cap, .func (.func 70) #[] #[.pointer (some ⟨PB + 1, 0, none⟩)], .int .i64 ((n - 1 - x.1 : Nat) : Int), .int .u8 (ug zs (n - 1 - x.1)), undef, undef, undef, undef, undef, undef, undef, undef, undef, undef], defers := [] })
    (fun x a' => Own.from (fun s A B row hs hg hr => hs) _) ?assign ?body ?done ?stop
  case assign =>
    rintro l pre x W K ⟨⟨v, ⟨h1, h2, h0⟩, h3⟩, h4, h6⟩ hK
    have hAA := hK _ W ((KeepsOthers.refl W).from _) (KeepB.refl _ W) ⟨⟨v, ⟨h1, h2, h0⟩, h3⟩, h4, h6⟩ rfl
    clear hK
    simp only [buA]
    gi_wp2
    exact hAA
  case body =>
    rintro l pre x a' W _ _ ⟨⟨v, ⟨h1, h2, h0⟩, h3⟩, h4, h6⟩ rfl hlen
    have hx := x.2
    have hdn : n - 1 - x.1 < n := by omega
    have HSN := hid (show (txL zs wd (pre ++ [x])).map Value.string = (txL zs wd pre).map Value.string ++ [.string ⟨(txP zs wd (n - 1 - x.1)).toArray⟩] by simp [txL])
    have HFX := hid (fun W h => HF.out (n - 1 - x.1) W hdn h)
    have HDX := hid (fun W h => HD.out (n - 1 - x.1) W hdn h)
    obtain ⟨d, hd⟩ : ∃ y, n - 1 - x.1 = y := ⟨_, rfl⟩
    rw [hd] at HSN HFX HDX ⊢
    obtain ⟨T, hT⟩ : ∃ y, (⟨(txP zs wd d).toArray⟩ : ByteArray) = y := ⟨_, rfl⟩
    rw [hT] at HSN HDX
    obtain ⟨p, hp⟩ : ∃ y, ug zs d = y := ⟨_, rfl⟩
    rw [hp] at HDX ⊢
    obtain ⟨q, hq⟩ : ∃ y, ((wd d : Nat) : Int) = y := ⟨_, rfl⟩
    rw [hq] at HFX HDX
    obtain ⟨dI, hdI⟩ : ∃ y, ((d : Nat) : Int) = y := ⟨_, rfl⟩
    rw [hdI] at HFX ⊢
    have H4 := hid h4
    have lw := h4.size
    clear hd hT hp hq hdI h4
    gi_wp2
    refine region_held (S := fun W' : World => Row W' w.heap.size 61 [.func (.func 41) #[] #[.pointer (some ⟨cb, 0, none⟩)]]) (by kernel_rfl) (by kernel_rfl) (fun hnd => ?_)
    obtain ⟨W0, hW0⟩ : ∃ Xq, Xq = World.drew W := ⟨_, rfl⟩
    have bR : Below W.heap.size W W0 := by rw [hW0]; exact (Below.refl _ _).drew
    have kR : KeepsOthers W W0 := by rw [hW0]; exact KeepsOthers.drew _
    replace h1 := h1.below bR h1.lt
    replace h2 := h2.below bR h2.lt
    replace h0 := h0.below bR h0.lt
    replace h3 := owns_belowP h3 bR
    rw [← hW0]
    clear hW0
    have hS0 : (fun W' : World => Row W' w.heap.size 61 [.func (.func 41) #[] #[.pointer (some ⟨cb, 0, none⟩)]]) W0 := h1
    refine anyS_takeD (some 16) (i := 1) (v := ?_) hnd rfl rfl (by kernel_rfl) (by kernel_rfl) (by kernel_rfl) (fun _ _ _ h => h) ⟨by rfl, ?_, fun _ => rfl⟩ hS0 ?_
    rotate_left
    · intro w' hw'; go_simp; try with_reducible rfl
    try simp only [Act.put, List.setIfInBounds_toArray, List.set_cons_zero, List.set_cons_succ]
    refine anyS_takeD (some 17) (i := 2) (v := ?_) hnd rfl rfl (by kernel_rfl) (by kernel_rfl) (by kernel_rfl) (fun _ _ _ h => h) ⟨by rfl, ?_, fun _ => rfl⟩ hS0 ?_
    rotate_left
    · intro w' hw'; have e0 := Row.cell hw' 0; simp only [List.getElem?_cons_zero] at e0; clear hw'; go_simp; try with_reducible rfl
    try simp only [Act.put, List.setIfInBounds_toArray, List.set_cons_zero, List.set_cons_succ]
    refine anyS_takeD (some 18) (i := 3) (v := ?_) hnd rfl rfl (by kernel_rfl) (by kernel_rfl) (by kernel_rfl) (fun _ _ _ h => h) ⟨by rfl, ?_, fun _ => rfl⟩ hS0 ?_
    rotate_left
    · intro w' hw'; go_simp; try with_reducible rfl
    try simp only [Act.put, List.setIfInBounds_toArray, List.set_cons_zero, List.set_cons_succ]
    refine anyS_two (i := 0) (k := 4) (by kernel_rfl) rfl rfl (by rfl) (by rfl) (fun K hKK => ?_) (fun K hKK => ?_)
    · have kq0 := h2.cell 0
      simp only [List.getElem?_cons_zero] at kq0
      go_simp
      refine hKK _ _ hS0 ?_
      try simp only [Act.put, List.setIfInBounds_toArray, List.set_cons_zero, List.set_cons_succ]
      clear hKK K kq0
      refine anyS_call (i := 4) (by kernel_rfl) rfl (by rfl) (fun K hKK => ?_)
      go_simp
      refine ⟨trivial, (CallsIn.inRound l (callsIn_wide.2 (HFX.out W0 (H4.out.trans (bR.mono lw))))).mono ?_⟩
      rintro e v2 ⟨rfl, hB2⟩
      dsimp only
      replace h1 := h1.below hB2 h1.lt
      replace h2 := h2.below hB2 h2.lt
      replace h0 := h0.below hB2 h0.lt
      replace h3 := owns_belowP h3 hB2
      replace kR := kR.trans (keepsOthers_of hB2)
      replace bR := bR.trans (hB2.mono bR.size)
      have hS2 : (fun W' : World => Row W' w.heap.size 61 [.func (.func 41) #[] #[.pointer (some ⟨cb, 0, none⟩)]]) v2 := h1
      clear hB2
      refine hKK _ _ hS2 ?_
      try simp only [Act.put, List.setIfInBounds_toArray, List.set_cons_zero, List.set_cons_succ]
      clear hKK K
      refine anyS_call (i := 5) (by kernel_rfl) rfl (by rfl) (fun K hKK => ?_)
      go_simp
      refine ⟨trivial, (CallsIn.inRound l (callsIn_wide.2 (HDX.out v2 (H4.out.trans (bR.mono lw))))).mono ?_⟩
      rintro e v3 ⟨rfl, hB3⟩
      dsimp only
      replace h1 := h1.below hB3 h1.lt
      replace h2 := h2.below hB3 h2.lt
      replace h0 := h0.below hB3 h0.lt
      replace h3 := owns_belowP h3 hB3
      replace kR := kR.trans (keepsOthers_of hB3)
      replace bR := bR.trans (hB3.mono bR.size)
      have hS3 : (fun W' : World => Row W' w.heap.size 61 [.func (.func 41) #[] #[.pointer (some ⟨cb, 0, none⟩)]]) v3 := h1
      clear hB3
      refine hKK _ _ hS3 ?_
      try simp only [Act.put, List.setIfInBounds_toArray, List.set_cons_zero, List.set_cons_succ]
      clear hKK K
      refine anyS_call (i := 6) (by kernel_rfl) rfl (by rfl) (fun K hKK => ?_)
      have rn := Row.new v3 9 [.string T]
      go_simp
      replace h1 := h1.alloc (.cells #[.string T] 9)
      replace h2 := h2.alloc (.cells #[.string T] 9)
      replace h0 := h0.alloc (.cells #[.string T] 9)
      replace h3 := h3.alloc (.cells #[.string T] 9)
      replace kR := kR.trans (KeepsOthers.alloc _ (.cells #[.string T] 9))
      have lr : W.heap.size ≤ v3.heap.size := bR.size
      replace bR := bR.alloc bR.size (.cells #[.string T] 9)
      have hS4 : (fun W' : World => Row W' w.heap.size 61 [.func (.func 41) #[] #[.pointer (some ⟨cb, 0, none⟩)]]) (v3.alloc (.cells #[.string T] 9)) := h1
      refine hKK _ _ hS4 ?_
      try simp only [Act.put, List.setIfInBounds_toArray, List.set_cons_zero, List.set_cons_succ]
      obtain ⟨G, hG⟩ : ∃ y, v3.heap.size = y := ⟨_, rfl⟩
      obtain ⟨X4, hX4⟩ : ∃ y, v3.alloc (.cells #[.string T] 9) = y := ⟨_, rfl⟩
      rw [hX4] at h1 h2 h0 h3 kR bR hS4 rn ⊢
      rw [hG] at rn lr ⊢
      clear hX4 hG hKK K
      refine anyS_call (i := 7) (by kernel_rfl) rfl (by rfl) (fun K hKK => ?_)
      have nc := rn.cell 0
      simp only [List.getElem?_cons_zero] at nc
      refine opIn_append_own X4 _ _ 73 rfl (w.heap.size + 1) 9 i0 (.string ⟨#[]⟩) 1 16 Tryz.underlying73 hi iz0 iz1 iz2 rfl (by decide) v _ _ rfl h3 ⟨G, 0, none⟩ 1 1 [.string T] rfl rfl (by intro j u hj; match j, hj with | 0, hj => simp at hj; subst hj; simp [Addr.add, nc]) (by intro u hu; simp at hu; subst hu; rfl) (by unfold maxLen; omega) (by omega) (by have := bR.size; omega) ?_
      intro v' w7 hown' hgrow
      obtain ⟨sa, sl, sc, rfl⟩ : ∃ a l c, v' = Value.slice a l c := (by rcases hown'.2 with ⟨h, _⟩ | ⟨g', cap', cur, h, _⟩; exact ⟨_, _, _, h⟩; exact ⟨_, _, _, h⟩)
      have k1 := h1.grown' hgrow (owns_lt h3 (by omega))
      have k2 := h2.grown' hgrow (owns_ne h3 h2 (by decide))
      have k0 := h0.grown' hgrow (owns_ne h3 h0 (by decide))
      have hz7 := hgrow.size
      have ko : KeepsOthers X4 w7 := KeepsOthers.of_grownBy hgrow (fun j o hj ho => by
        rcases h3.2 with ⟨rfl, _⟩ | ⟨g', cap', cur, rfl, q2, q3, _⟩
        · cases hj
        · have : g' = j := Option.some.inj hj
          subst this
          rw [q3] at ho
          cases ho
          rfl)
      have kb := hid (show KeepB (fun g => g = b ∨ g = PB + 1) W (w7.setCell ⟨PB, 0, none⟩ (.slice sa sl sc)) from fun g hg => by
        have hgV := HSL.out g hg
        have e1 := bR.block g (Nat.lt_of_lt_of_le hgV h6)
        have e3 := hgrow.block g (Nat.lt_of_lt_of_le (Nat.lt_of_lt_of_le hgV h6) bR.size) (by rcases hg with rfl | rfl; exact owns_lt h3 (by omega); exact owns_ne h3 h0 (by decide))
        have e4 := Below.heap_setCell w7 ⟨PB, 0, none⟩ (.slice sa sl sc) g (by rcases hg with rfl | rfl <;> simp <;> omega)
        rw [e4, e3, e1])
      have bel := hid (show Below w.heap.size w (w7.setCell ⟨PB, 0, none⟩ (.slice sa sl sc)) from ((H4.out.trans (bR.mono lw)).grown hgrow (by have := bR.size; omega) (fun k e => by have := owns_lt h3 (g := k); by_cases hk : w.heap.size ≤ k; exact hk; exact absurd e.symm (this (by omega)))).setCell (p := ⟨PB, 0, none⟩) (by show _ ≤ PB; omega) _)
      have kf := hid (kR.trans (ko.trans (KeepsOthers.setCell _ ⟨PB, 0, none⟩ (.slice sa sl sc))))
      have ST := hid (show Row (w7.setCell ⟨PB, 0, none⟩ (.slice sa sl sc)) w.heap.size 61 [.func (.func 41) #[] #[.pointer (some ⟨cb, 0, none⟩)]] ∧ Row (w7.setCell ⟨PB, 0, none⟩ (.slice sa sl sc)) PB 73 [.slice sa sl sc] ∧ Row (w7.setCell ⟨PB, 0, none⟩ (.slice sa sl sc)) (PB + 1) 22 [.slice (some ⟨b, 0, none⟩) n cap] from ⟨k1.other (by show PB ≠ w.heap.size; omega) _, k2.set 0 (.slice sa sl sc), k0.other (by show PB ≠ PB + 1; omega) _⟩)
      have OW := hid (show (w7.setCell ⟨PB, 0, none⟩ (.slice sa sl sc)).ownsRow (w.heap.size + 1) 9 1 (.slice sa sl sc) (pre.length + 1) (((txL zs wd pre).map Value.string) ++ [.string T]) from owns_other hown' k2 (by decide) _)
      have zW : W.heap.size ≤ (w7.setCell ⟨PB, 0, none⟩ (.slice sa sl sc)).heap.size := by have := bR.size; simp; omega
      have k1' := k1
      have cL7 := k2.cell 0
      have fL7 := k2.frozen 0
      simp only [List.getElem?_cons_zero] at cL7
      have hS7 : (fun W' : World => Row W' w.heap.size 61 [.func (.func 41) #[] #[.pointer (some ⟨cb, 0, none⟩)]]) w7 := k1
      refine hKK _ _ hS7 ?_
      try simp only [Act.put, List.setIfInBounds_toArray, List.set_cons_zero, List.set_cons_succ]
      clear hKK K hown' hgrow h1 h2 h0 h3 rn bR kR ko hS4
      refine anyS_oneD none (i := 8) (w' := w7.setCell ⟨PB, 0, none⟩ (.slice sa sl sc)) hnd (by kernel_rfl) rfl rfl (by rfl) rfl ?_ ?_ (anyS_done (by kernel_rfl) ?_ _)
      · go_simp
      · exact ST.out.1
      try simp only [Act.put, List.setIfInBounds_toArray, List.set_cons_zero, List.set_cons_succ]
      gi_wp2
      exact ⟨kf.out.from _, kb.out, ⟨.slice sa sl sc, ST.out, by rw [HSN.out, List.length_append]; exact OW.out⟩, bel.out, by omega⟩
    · go_simp
      refine ⟨trivial, (CallsIn.inRound l (callsIn_wide.2 (HFX.out W0 (H4.out.trans (bR.mono lw))))).mono ?_⟩
      rintro e v5 ⟨rfl, hB5⟩
      dsimp only
      replace h1 := h1.below hB5 h1.lt
      replace h2 := h2.below hB5 h2.lt
      replace h0 := h0.below hB5 h0.lt
      replace h3 := owns_belowP h3 hB5
      replace kR := kR.trans (keepsOthers_of hB5)
      replace bR := bR.trans (hB5.mono bR.size)
      have hS5 : (fun W' : World => Row W' w.heap.size 61 [.func (.func 41) #[] #[.pointer (some ⟨cb, 0, none⟩)]]) v5 := h1
      clear hB5
      refine hKK _ _ hS5 ?_
      try simp only [Act.put, List.setIfInBounds_toArray, List.set_cons_zero, List.set_cons_succ]
      clear hKK K
      refine anyS_two (i := 0) (k := 5) (by kernel_rfl) rfl rfl (by rfl) (by rfl) (fun K hKK => ?_) (fun K hKK => ?_)
      · have kq0 := h2.cell 0
        simp only [List.getElem?_cons_zero] at kq0
        go_simp
        refine hKK _ _ hS5 ?_
        try simp only [Act.put, List.setIfInBounds_toArray, List.set_cons_zero, List.set_cons_succ]
        clear hKK K kq0
        refine anyS_call (i := 5) (by kernel_rfl) rfl (by rfl) (fun K hKK => ?_)
        go_simp
        refine ⟨trivial, (CallsIn.inRound l (callsIn_wide.2 (HDX.out v5 (H4.out.trans (bR.mono lw))))).mono ?_⟩
        rintro e v7 ⟨rfl, hB7⟩
        dsimp only
        replace h1 := h1.below hB7 h1.lt
        replace h2 := h2.below hB7 h2.lt
        replace h0 := h0.below hB7 h0.lt
        replace h3 := owns_belowP h3 hB7
        replace kR := kR.trans (keepsOthers_of hB7)
        replace bR := bR.trans (hB7.mono bR.size)
        have hS7 : (fun W' : World => Row W' w.heap.size 61 [.func (.func 41) #[] #[.pointer (some ⟨cb, 0, none⟩)]]) v7 := h1
        clear hB7
        refine hKK _ _ hS7 ?_
        try simp only [Act.put, List.setIfInBounds_toArray, List.set_cons_zero, List.set_cons_succ]
        clear hKK K
        refine anyS_call (i := 6) (by kernel_rfl) rfl (by rfl) (fun K hKK => ?_)
        have rn := Row.new v7 9 [.string T]
        go_simp
        replace h1 := h1.alloc (.cells #[.string T] 9)
        replace h2 := h2.alloc (.cells #[.string T] 9)
        replace h0 := h0.alloc (.cells #[.string T] 9)
        replace h3 := h3.alloc (.cells #[.string T] 9)
        replace kR := kR.trans (KeepsOthers.alloc _ (.cells #[.string T] 9))
        have lr : W.heap.size ≤ v7.heap.size := bR.size
        replace bR := bR.alloc bR.size (.cells #[.string T] 9)
        have hS8 : (fun W' : World => Row W' w.heap.size 61 [.func (.func 41) #[] #[.pointer (some ⟨cb, 0, none⟩)]]) (v7.alloc (.cells #[.string T] 9)) := h1
        refine hKK _ _ hS8 ?_
        try simp only [Act.put, List.setIfInBounds_toArray, List.set_cons_zero, List.set_cons_succ]
        obtain ⟨G, hG⟩ : ∃ y, v7.heap.size = y := ⟨_, rfl⟩
        obtain ⟨X8, hX8⟩ : ∃ y, v7.alloc (.cells #[.string T] 9) = y := ⟨_, rfl⟩
        rw [hX8] at h1 h2 h0 h3 kR bR hS8 rn ⊢
        rw [hG] at rn lr ⊢
        clear hX8 hG hKK K
        refine anyS_call (i := 7) (by kernel_rfl) rfl (by rfl) (fun K hKK => ?_)
        have nc := rn.cell 0
        simp only [List.getElem?_cons_zero] at nc
        refine opIn_append_own X8 _ _ 73 rfl (w.heap.size + 1) 9 i0 (.string ⟨#[]⟩) 1 16 Tryz.underlying73 hi iz0 iz1 iz2 rfl (by decide) v _ _ rfl h3 ⟨G, 0, none⟩ 1 1 [.string T] rfl rfl (by intro j u hj; match j, hj with | 0, hj => simp at hj; subst hj; simp [Addr.add, nc]) (by intro u hu; simp at hu; subst hu; rfl) (by unfold maxLen; omega) (by omega) (by have := bR.size; omega) ?_
        intro v' w7 hown' hgrow
        obtain ⟨sa, sl, sc, rfl⟩ : ∃ a l c, v' = Value.slice a l c := (by rcases hown'.2 with ⟨h, _⟩ | ⟨g', cap', cur, h, _⟩; exact ⟨_, _, _, h⟩; exact ⟨_, _, _, h⟩)
        have k1 := h1.grown' hgrow (owns_lt h3 (by omega))
        have k2 := h2.grown' hgrow (owns_ne h3 h2 (by decide))
        have k0 := h0.grown' hgrow (owns_ne h3 h0 (by decide))
        have hz7 := hgrow.size
        have ko : KeepsOthers X8 w7 := KeepsOthers.of_grownBy hgrow (fun j o hj ho => by
          rcases h3.2 with ⟨rfl, _⟩ | ⟨g', cap', cur, rfl, q2, q3, _⟩
          · cases hj
          · have : g' = j := Option.some.inj hj
            subst this
            rw [q3] at ho
            cases ho
            rfl)
        have kb := hid (show KeepB (fun g => g = b ∨ g = PB + 1) W (w7.setCell ⟨PB, 0, none⟩ (.slice sa sl sc)) from fun g hg => by
          have hgV := HSL.out g hg
          have e1 := bR.block g (Nat.lt_of_lt_of_le hgV h6)
          have e3 := hgrow.block g (Nat.lt_of_lt_of_le (Nat.lt_of_lt_of_le hgV h6) bR.size) (by rcases hg with rfl | rfl; exact owns_lt h3 (by omega); exact owns_ne h3 h0 (by decide))
          have e4 := Below.heap_setCell w7 ⟨PB, 0, none⟩ (.slice sa sl sc) g (by rcases hg with rfl | rfl <;> simp <;> omega)
          rw [e4, e3, e1])
        have bel := hid (show Below w.heap.size w (w7.setCell ⟨PB, 0, none⟩ (.slice sa sl sc)) from ((H4.out.trans (bR.mono lw)).grown hgrow (by have := bR.size; omega) (fun k e => by have := owns_lt h3 (g := k); by_cases hk : w.heap.size ≤ k; exact hk; exact absurd e.symm (this (by omega)))).setCell (p := ⟨PB, 0, none⟩) (by show _ ≤ PB; omega) _)
        have kf := hid (kR.trans (ko.trans (KeepsOthers.setCell _ ⟨PB, 0, none⟩ (.slice sa sl sc))))
        have ST := hid (show Row (w7.setCell ⟨PB, 0, none⟩ (.slice sa sl sc)) w.heap.size 61 [.func (.func 41) #[] #[.pointer (some ⟨cb, 0, none⟩)]] ∧ Row (w7.setCell ⟨PB, 0, none⟩ (.slice sa sl sc)) PB 73 [.slice sa sl sc] ∧ Row (w7.setCell ⟨PB, 0, none⟩ (.slice sa sl sc)) (PB + 1) 22 [.slice (some ⟨b, 0, none⟩) n cap] from ⟨k1.other (by show PB ≠ w.heap.size; omega) _, k2.set 0 (.slice sa sl sc), k0.other (by show PB ≠ PB + 1; omega) _⟩)
        have OW := hid (show (w7.setCell ⟨PB, 0, none⟩ (.slice sa sl sc)).ownsRow (w.heap.size + 1) 9 1 (.slice sa sl sc) (pre.length + 1) (((txL zs wd pre).map Value.string) ++ [.string T]) from owns_other hown' k2 (by decide) _)
        have zW : W.heap.size ≤ (w7.setCell ⟨PB, 0, none⟩ (.slice sa sl sc)).heap.size := by have := bR.size; simp; omega
        have k1' := k1
        have cL7 := k2.cell 0
        have fL7 := k2.frozen 0
        simp only [List.getElem?_cons_zero] at cL7
        have hS7 : (fun W' : World => Row W' w.heap.size 61 [.func (.func 41) #[] #[.pointer (some ⟨cb, 0, none⟩)]]) w7 := k1
        refine hKK _ _ hS7 ?_
        try simp only [Act.put, List.setIfInBounds_toArray, List.set_cons_zero, List.set_cons_succ]
        clear hKK K hown' hgrow h1 h2 h0 h3 rn bR kR ko hS8
        refine anyS_oneD none (i := 8) (w' := w7.setCell ⟨PB, 0, none⟩ (.slice sa sl sc)) hnd (by kernel_rfl) rfl rfl (by rfl) rfl ?_ ?_ (anyS_done (by kernel_rfl) ?_ _)
        · go_simp
        · exact ST.out.1
        try simp only [Act.put, List.setIfInBounds_toArray, List.set_cons_zero, List.set_cons_succ]
        gi_wp2
        exact ⟨kf.out.from _, kb.out, ⟨.slice sa sl sc, ST.out, by rw [HSN.out, List.length_append]; exact OW.out⟩, bel.out, by omega⟩
      · go_simp
        refine ⟨trivial, (CallsIn.inRound l (callsIn_wide.2 (HDX.out v5 (H4.out.trans (bR.mono lw))))).mono ?_⟩
        rintro e v9 ⟨rfl, hB9⟩
        dsimp only
        replace h1 := h1.below hB9 h1.lt
        replace h2 := h2.below hB9 h2.lt
        replace h0 := h0.below hB9 h0.lt
        replace h3 := owns_belowP h3 hB9
        replace kR := kR.trans (keepsOthers_of hB9)
        replace bR := bR.trans (hB9.mono bR.size)
        have hS9 : (fun W' : World => Row W' w.heap.size 61 [.func (.func 41) #[] #[.pointer (some ⟨cb, 0, none⟩)]]) v9 := h1
        clear hB9
        refine hKK _ _ hS9 ?_
        try simp only [Act.put, List.setIfInBounds_toArray, List.set_cons_zero, List.set_cons_succ]
        clear hKK K
        refine anyS_two (i := 0) (k := 6) (by kernel_rfl) rfl rfl (by rfl) (by rfl) (fun K hKK => ?_) (fun K hKK => ?_)
        · have kq0 := h2.cell 0
          simp only [List.getElem?_cons_zero] at kq0
          go_simp
          refine hKK _ _ hS9 ?_
          try simp only [Act.put, List.setIfInBounds_toArray, List.set_cons_zero, List.set_cons_succ]
          clear hKK K kq0
          refine anyS_call (i := 6) (by kernel_rfl) rfl (by rfl) (fun K hKK => ?_)
          have rn := Row.new v9 9 [.string T]
          go_simp
          replace h1 := h1.alloc (.cells #[.string T] 9)
          replace h2 := h2.alloc (.cells #[.string T] 9)
          replace h0 := h0.alloc (.cells #[.string T] 9)
          replace h3 := h3.alloc (.cells #[.string T] 9)
          replace kR := kR.trans (KeepsOthers.alloc _ (.cells #[.string T] 9))
          have lr : W.heap.size ≤ v9.heap.size := bR.size
          replace bR := bR.alloc bR.size (.cells #[.string T] 9)
          have hS11 : (fun W' : World => Row W' w.heap.size 61 [.func (.func 41) #[] #[.pointer (some ⟨cb, 0, none⟩)]]) (v9.alloc (.cells #[.string T] 9)) := h1
          refine hKK _ _ hS11 ?_
          try simp only [Act.put, List.setIfInBounds_toArray, List.set_cons_zero, List.set_cons_succ]
          obtain ⟨G, hG⟩ : ∃ y, v9.heap.size = y := ⟨_, rfl⟩
          obtain ⟨X11, hX11⟩ : ∃ y, v9.alloc (.cells #[.string T] 9) = y := ⟨_, rfl⟩
          rw [hX11] at h1 h2 h0 h3 kR bR hS11 rn ⊢
          rw [hG] at rn lr ⊢
          clear hX11 hG hKK K
          refine anyS_call (i := 7) (by kernel_rfl) rfl (by rfl) (fun K hKK => ?_)
          have nc := rn.cell 0
          simp only [List.getElem?_cons_zero] at nc
          refine opIn_append_own X11 _ _ 73 rfl (w.heap.size + 1) 9 i0 (.string ⟨#[]⟩) 1 16 Tryz.underlying73 hi iz0 iz1 iz2 rfl (by decide) v _ _ rfl h3 ⟨G, 0, none⟩ 1 1 [.string T] rfl rfl (by intro j u hj; match j, hj with | 0, hj => simp at hj; subst hj; simp [Addr.add, nc]) (by intro u hu; simp at hu; subst hu; rfl) (by unfold maxLen; omega) (by omega) (by have := bR.size; omega) ?_
          intro v' w7 hown' hgrow
          obtain ⟨sa, sl, sc, rfl⟩ : ∃ a l c, v' = Value.slice a l c := (by rcases hown'.2 with ⟨h, _⟩ | ⟨g', cap', cur, h, _⟩; exact ⟨_, _, _, h⟩; exact ⟨_, _, _, h⟩)
          have k1 := h1.grown' hgrow (owns_lt h3 (by omega))
          have k2 := h2.grown' hgrow (owns_ne h3 h2 (by decide))
          have k0 := h0.grown' hgrow (owns_ne h3 h0 (by decide))
          have hz7 := hgrow.size
          have ko : KeepsOthers X11 w7 := KeepsOthers.of_grownBy hgrow (fun j o hj ho => by
            rcases h3.2 with ⟨rfl, _⟩ | ⟨g', cap', cur, rfl, q2, q3, _⟩
            · cases hj
            · have : g' = j := Option.some.inj hj
              subst this
              rw [q3] at ho
              cases ho
              rfl)
          have kb := hid (show KeepB (fun g => g = b ∨ g = PB + 1) W (w7.setCell ⟨PB, 0, none⟩ (.slice sa sl sc)) from fun g hg => by
            have hgV := HSL.out g hg
            have e1 := bR.block g (Nat.lt_of_lt_of_le hgV h6)
            have e3 := hgrow.block g (Nat.lt_of_lt_of_le (Nat.lt_of_lt_of_le hgV h6) bR.size) (by rcases hg with rfl | rfl; exact owns_lt h3 (by omega); exact owns_ne h3 h0 (by decide))
            have e4 := Below.heap_setCell w7 ⟨PB, 0, none⟩ (.slice sa sl sc) g (by rcases hg with rfl | rfl <;> simp <;> omega)
            rw [e4, e3, e1])
          have bel := hid (show Below w.heap.size w (w7.setCell ⟨PB, 0, none⟩ (.slice sa sl sc)) from ((H4.out.trans (bR.mono lw)).grown hgrow (by have := bR.size; omega) (fun k e => by have := owns_lt h3 (g := k); by_cases hk : w.heap.size ≤ k; exact hk; exact absurd e.symm (this (by omega)))).setCell (p := ⟨PB, 0, none⟩) (by show _ ≤ PB; omega) _)
          have kf := hid (kR.trans (ko.trans (KeepsOthers.setCell _ ⟨PB, 0, none⟩ (.slice sa sl sc))))
          have ST := hid (show Row (w7.setCell ⟨PB, 0, none⟩ (.slice sa sl sc)) w.heap.size 61 [.func (.func 41) #[] #[.pointer (some ⟨cb, 0, none⟩)]] ∧ Row (w7.setCell ⟨PB, 0, none⟩ (.slice sa sl sc)) PB 73 [.slice sa sl sc] ∧ Row (w7.setCell ⟨PB, 0, none⟩ (.slice sa sl sc)) (PB + 1) 22 [.slice (some ⟨b, 0, none⟩) n cap] from ⟨k1.other (by show PB ≠ w.heap.size; omega) _, k2.set 0 (.slice sa sl sc), k0.other (by show PB ≠ PB + 1; omega) _⟩)
          have OW := hid (show (w7.setCell ⟨PB, 0, none⟩ (.slice sa sl sc)).ownsRow (w.heap.size + 1) 9 1 (.slice sa sl sc) (pre.length + 1) (((txL zs wd pre).map Value.string) ++ [.string T]) from owns_other hown' k2 (by decide) _)
          have zW : W.heap.size ≤ (w7.setCell ⟨PB, 0, none⟩ (.slice sa sl sc)).heap.size := by have := bR.size; simp; omega
          have k1' := k1
          have cL7 := k2.cell 0
          have fL7 := k2.frozen 0
          simp only [List.getElem?_cons_zero] at cL7
          have hS7 : (fun W' : World => Row W' w.heap.size 61 [.func (.func 41) #[] #[.pointer (some ⟨cb, 0, none⟩)]]) w7 := k1
          refine hKK _ _ hS7 ?_
          try simp only [Act.put, List.setIfInBounds_toArray, List.set_cons_zero, List.set_cons_succ]
          clear hKK K hown' hgrow h1 h2 h0 h3 rn bR kR ko hS11
          refine anyS_oneD none (i := 8) (w' := w7.setCell ⟨PB, 0, none⟩ (.slice sa sl sc)) hnd (by kernel_rfl) rfl rfl (by rfl) rfl ?_ ?_ (anyS_done (by kernel_rfl) ?_ _)
          · go_simp
          · exact ST.out.1
          try simp only [Act.put, List.setIfInBounds_toArray, List.set_cons_zero, List.set_cons_succ]
          gi_wp2
          exact ⟨kf.out.from _, kb.out, ⟨.slice sa sl sc, ST.out, by rw [HSN.out, List.length_append]; exact OW.out⟩, bel.out, by omega⟩
        · have rn := Row.new v9 9 [.string T]
          go_simp
          replace h1 := h1.alloc (.cells #[.string T] 9)
          replace h2 := h2.alloc (.cells #[.string T] 9)
          replace h0 := h0.alloc (.cells #[.string T] 9)
          replace h3 := h3.alloc (.cells #[.string T] 9)
          replace kR := kR.trans (KeepsOthers.alloc _ (.cells #[.string T] 9))
          have lr : W.heap.size ≤ v9.heap.size := bR.size
          replace bR := bR.alloc bR.size (.cells #[.string T] 9)
          have hS12 : (fun W' : World => Row W' w.heap.size 61 [.func (.func 41) #[] #[.pointer (some ⟨cb, 0, none⟩)]]) (v9.alloc (.cells #[.string T] 9)) := h1
          refine hKK _ _ hS12 ?_
          try simp only [Act.put, List.setIfInBounds_toArray, List.set_cons_zero, List.set_cons_succ]
          obtain ⟨G, hG⟩ : ∃ y, v9.heap.size = y := ⟨_, rfl⟩
          obtain ⟨X12, hX12⟩ : ∃ y, v9.alloc (.cells #[.string T] 9) = y := ⟨_, rfl⟩
          rw [hX12] at h1 h2 h0 h3 kR bR hS12 rn ⊢
          rw [hG] at rn lr ⊢
          clear hX12 hG hKK K
          refine anyS_call (i := 0) (by kernel_rfl) rfl (by rfl) (fun K hKK => ?_)
          have kq0 := h2.cell 0
          simp only [List.getElem?_cons_zero] at kq0
          go_simp
          refine hKK _ _ hS12 ?_
          try simp only [Act.put, List.setIfInBounds_toArray, List.set_cons_zero, List.set_cons_succ]
          clear hKK K kq0
          refine anyS_call (i := 7) (by kernel_rfl) rfl (by rfl) (fun K hKK => ?_)
          have nc := rn.cell 0
          simp only [List.getElem?_cons_zero] at nc
          refine opIn_append_own X12 _ _ 73 rfl (w.heap.size + 1) 9 i0 (.string ⟨#[]⟩) 1 16 Tryz.underlying73 hi iz0 iz1 iz2 rfl (by decide) v _ _ rfl h3 ⟨G, 0, none⟩ 1 1 [.string T] rfl rfl (by intro j u hj; match j, hj with | 0, hj => simp at hj; subst hj; simp [Addr.add, nc]) (by intro u hu; simp at hu; subst hu; rfl) (by unfold maxLen; omega) (by omega) (by have := bR.size; omega) ?_
          intro v' w7 hown' hgrow
          obtain ⟨sa, sl, sc, rfl⟩ : ∃ a l c, v' = Value.slice a l c := (by rcases hown'.2 with ⟨h, _⟩ | ⟨g', cap', cur, h, _⟩; exact ⟨_, _, _, h⟩; exact ⟨_, _, _, h⟩)
          have k1 := h1.grown' hgrow (owns_lt h3 (by omega))
          have k2 := h2.grown' hgrow (owns_ne h3 h2 (by decide))
          have k0 := h0.grown' hgrow (owns_ne h3 h0 (by decide))
          have hz7 := hgrow.size
          have ko : KeepsOthers X12 w7 := KeepsOthers.of_grownBy hgrow (fun j o hj ho => by
            rcases h3.2 with ⟨rfl, _⟩ | ⟨g', cap', cur, rfl, q2, q3, _⟩
            · cases hj
            · have : g' = j := Option.some.inj hj
              subst this
              rw [q3] at ho
              cases ho
              rfl)
          have kb := hid (show KeepB (fun g => g = b ∨ g = PB + 1) W (w7.setCell ⟨PB, 0, none⟩ (.slice sa sl sc)) from fun g hg => by
            have hgV := HSL.out g hg
            have e1 := bR.block g (Nat.lt_of_lt_of_le hgV h6)
            have e3 := hgrow.block g (Nat.lt_of_lt_of_le (Nat.lt_of_lt_of_le hgV h6) bR.size) (by rcases hg with rfl | rfl; exact owns_lt h3 (by omega); exact owns_ne h3 h0 (by decide))
            have e4 := Below.heap_setCell w7 ⟨PB, 0, none⟩ (.slice sa sl sc) g (by rcases hg with rfl | rfl <;> simp <;> omega)
            rw [e4, e3, e1])
          have bel := hid (show Below w.heap.size w (w7.setCell ⟨PB, 0, none⟩ (.slice sa sl sc)) from ((H4.out.trans (bR.mono lw)).grown hgrow (by have := bR.size; omega) (fun k e => by have := owns_lt h3 (g := k); by_cases hk : w.heap.size ≤ k; exact hk; exact absurd e.symm (this (by omega)))).setCell (p := ⟨PB, 0, none⟩) (by show _ ≤ PB; omega) _)
          have kf := hid (kR.trans (ko.trans (KeepsOthers.setCell _ ⟨PB, 0, none⟩ (.slice sa sl sc))))
          have ST := hid (show Row (w7.setCell ⟨PB, 0, none⟩ (.slice sa sl sc)) w.heap.size 61 [.func (.func 41) #[] #[.pointer (some ⟨cb, 0, none⟩)]] ∧ Row (w7.setCell ⟨PB, 0, none⟩ (.slice sa sl sc)) PB 73 [.slice sa sl sc] ∧ Row (w7.setCell ⟨PB, 0, none⟩ (.slice sa sl sc)) (PB + 1) 22 [.slice (some ⟨b, 0, none⟩) n cap] from ⟨k1.other (by show PB ≠ w.heap.size; omega) _, k2.set 0 (.slice sa sl sc), k0.other (by show PB ≠ PB + 1; omega) _⟩)
          have OW := hid (show (w7.setCell ⟨PB, 0, none⟩ (.slice sa sl sc)).ownsRow (w.heap.size + 1) 9 1 (.slice sa sl sc) (pre.length + 1) (((txL zs wd pre).map Value.string) ++ [.string T]) from owns_other hown' k2 (by decide) _)
          have zW : W.heap.size ≤ (w7.setCell ⟨PB, 0, none⟩ (.slice sa sl sc)).heap.size := by have := bR.size; simp; omega
          have k1' := k1
          have cL7 := k2.cell 0
          have fL7 := k2.frozen 0
          simp only [List.getElem?_cons_zero] at cL7
          have hS7 : (fun W' : World => Row W' w.heap.size 61 [.func (.func 41) #[] #[.pointer (some ⟨cb, 0, none⟩)]]) w7 := k1
          refine hKK _ _ hS7 ?_
          try simp only [Act.put, List.setIfInBounds_toArray, List.set_cons_zero, List.set_cons_succ]
          clear hKK K hown' hgrow h1 h2 h0 h3 rn bR kR ko hS12
          refine anyS_oneD none (i := 8) (w' := w7.setCell ⟨PB, 0, none⟩ (.slice sa sl sc)) hnd (by kernel_rfl) rfl rfl (by rfl) rfl ?_ ?_ (anyS_done (by kernel_rfl) ?_ _)
          · go_simp
          · exact ST.out.1
          try simp only [Act.put, List.setIfInBounds_toArray, List.set_cons_zero, List.set_cons_succ]
          gi_wp2
          exact ⟨kf.out.from _, kb.out, ⟨.slice sa sl sc, ST.out, by rw [HSN.out, List.length_append]; exact OW.out⟩, bel.out, by omega⟩
  case done =>
    rintro D ys W hD rfl ⟨⟨v, ⟨h1, h2, h0⟩, h3⟩, h4, h6⟩ hK
    have cL := h2.cell 0
    simp only [List.getElem?_cons_zero] at cL
    have hfl : (List.finRange n).length = n := by simp
    rw [hfl] at h3
    have htl : (txL zs wd (List.finRange n)).length = n := by simp [txL]
    have hTT := hid (show Lib.join ((txL zs wd (List.finRange n)).map (·.data.toList)) [58] = txT zs wd by unfold txT; rw [← hN.out])
    rcases h3.2 with h90 | ⟨g, gcap, cur, rfl, h92, h93, h94⟩
    · exact absurd h90.2 (by omega)
    have HJ := hid (Tryz.strings_Join g 0 gcap (txL zs wd (List.finRange n)) ⟨#[58]⟩ W (own_cells h3) (lt_of_block h93) (by rw [htl]; omega) (by rw [htl]; exact own_cap h3) (by rw [hTT.out]; have := HL.out; omega))
    rw [htl, hTT.out] at HJ
    have H4 := hid h4
    have lw := h4.size
    have HK := hid hK
    have hDw := hD
    clear h1 h2 h0 h3 h4 h92 h93 h94 hK
    gi_wp2_with (gi_at_call 59; refine (callsIn_wide.2 HJ.out).mono ?_; rintro e w9 ⟨rfl, hB9⟩)
    have hK9 := (hB9.block D (lt_of_block HK.out)).trans HK.out
    refine ⟨by simp, .inl ⟨_, _, rfl, run_takeDeferred hK9, ?_⟩⟩
    exact ⟨_, results_tmp rfl _ _ _, rfl, (H4.out.trans (hB9.mono lw)).trans (belowK_b (w := w) (n₀ := w.heap.size) (Nat.le_refl _) w9 D (.deferred (some [])) (.deferred none) (by omega) hK9 rfl rfl)⟩
  case stop =>
    rintro D c pre W _ _ h _
    exact h.elim
set_option maxRecDepth 100000 in
set_option maxHeartbeats 4000000 in
theorem textLFS_any (b n cap : Nat) (zs : List Int) (hn : n = zs.length) (h1n : 1 ≤ n) (wd : Nat → Nat) (w : World) (hS : Stk w b zs)
    (hF : ∀ (k : Nat) W, k < n → Below w.heap.size w W → Calls Tryz.prog 40 #[.int .i64 (k : Int)] W fun e w' => e = .returned (.int .i64 ((wd k : Nat) : Int)) ∧ Below W.heap.size W w')
    (hD : ∀ (k : Nat) W, k < n → Below w.heap.size w W → Calls Tryz.prog 42 #[.int .u8 (ug zs k), .int .i64 ((wd k : Nat) : Int)] W fun e w' => e = .returned (.string ⟨(txP zs wd k).toArray⟩) ∧ Below W.heap.size W w')
    (hlen : (txT zs wd).length ≤ 1000000) :
    Calls Tryz.prog 39 #[.slice (some ⟨b, 0, none⟩) n cap, .func (.func 40) #[] #[]] w fun e w' => e = .returned (.string ⟨(txT zs wd).toArray⟩) ∧ Below w.heap.size w w' := by
  obtain ⟨i0, hi, iz0, iz1, iz2⟩ := info_parts Tryz.infoStr
  have hle := hS.2.2.2
  rw [← hn] at hle
  have hC := hid hS.2.1
  have hbl := hS.1
  have hm : 1 ≤ 8 := by omega
  have hN := hid hn
  have HF := hid hF
  have HD := hid hD
  have HL := hid hlen
  clear hS hn hF hD hlen
  have g3 : Fence.wide.fn 58 := trivial
  have g4 : Fence.wide.fn 59 := trivial
  have qF := Row.new w 61 [.func (.func 40) #[] #[]]
  refine (callsIn_wide (n := 8)).1 ?_
  refine callsIn_of_wp_marks Tryz.func39 rfl trivial ?_ rfl
  simp only [Tryz.ntmps39, List.size_toArray, List.length_cons, List.length_nil, Nat.reduceAdd, Nat.reduceSub, Array.replicate_succ, Array.replicate_zero, List.push_toArray, List.append_toArray, List.nil_append, List.cons_append]
  gi_wp2_with (first | (gi_at_make; refine wpListIn_make_own _ rfl _ _ 73 rfl (w.heap.size + 1) 9 i0 (.string ⟨#[]⟩) 1 Tryz.underlying73 hi iz0 iz1 .i64 .i64 (n : Int) n rfl rfl rfl (by rw [iz2]; omega) (by unfold maxLen; omega) (by simp) ?_; intro w1 hown1 hg1; simp only [World.size_alloc] at hown1) | (gi_at_call 58; refine (bu_in Fence.wide _ trivial rfl _ _ _ _).mono ?_; rintro e w' ⟨rfl, rfl⟩))
  have hz1 := hg1.size
  simp only [World.size_alloc] at hz1
  have b1 : Below w.heap.size w w1 := ((Below.refl w.heap.size w).alloc (Nat.le_refl _) (.cells #[.func (.func 40) #[] #[]] 61)).grown hg1 (by simp) (fun k e => by cases e)
  have p1 := qF.grown' hg1 (by simp)
  have p2 := Row.new w1 73 [.slice (some ⟨w.heap.size + 1, 0, none⟩) 0 n]
  have p0 := Row.new (w1.alloc (.cells #[.slice (some ⟨w.heap.size + 1, 0, none⟩) 0 n] 73)) 22 [.slice (some ⟨b, 0, none⟩) n cap]
  simp only [World.size_alloc] at p0
  have q1 := (p1.alloc (.cells #[.slice (some ⟨w.heap.size + 1, 0, none⟩) 0 n] 73)).alloc (.cells #[.slice (some ⟨b, 0, none⟩) n cap] 22)
  have q2 := p2.alloc (.cells #[.slice (some ⟨b, 0, none⟩) n cap] 22)
  have q0 := p0
  have OV := (hown1.alloc (.cells #[.slice (some ⟨w.heap.size + 1, 0, none⟩) 0 n] 73)).alloc (.cells #[.slice (some ⟨b, 0, none⟩) n cap] 22)
  have bV : Below w.heap.size w ((w1.alloc (.cells #[.slice (some ⟨w.heap.size + 1, 0, none⟩) 0 n] 73)).alloc (.cells #[.slice (some ⟨b, 0, none⟩) n cap] 22)) := (b1.alloc b1.size _).alloc (by simp; omega) _
  have sV : ((w1.alloc (.cells #[.slice (some ⟨w.heap.size + 1, 0, none⟩) 0 n] 73)).alloc (.cells #[.slice (some ⟨b, 0, none⟩) n cap] 22)).heap.size = w1.heap.size + 1 + 1 := by simp
  obtain ⟨V, hV⟩ : ∃ V, V = (w1.alloc (.cells #[.slice (some ⟨w.heap.size + 1, 0, none⟩) 0 n] 73)).alloc (.cells #[.slice (some ⟨b, 0, none⟩) n cap] 22) := ⟨_, rfl⟩
  rw [← hV] at q0 q1 q2 OV bV sV ⊢
  clear hV p0 p1 p2 b1 hown1 hg1 qF
  obtain ⟨PB, hPB⟩ : ∃ y, w1.heap.size = y := ⟨_, rfl⟩
  rw [hPB] at q0 q2 sV hz1 ⊢
  clear hPB
  have cB := q0.cell 0
  simp only [List.getElem?_cons_zero] at cB
  have hsl : ∀ g, g = b ∨ g = PB + 1 → g < V.heap.size := fun g hg => by rcases hg with rfl | rfl <;> omega
  have hcV : ∀ j, j < n → V.cell? ⟨b, j, none⟩ = some (.int .u8 (ug zs j)) := fun j hj => (bV.cell (p := ⟨b, j, none⟩) hbl).trans (hC.out j (by rw [← hN.out]; exact hj))
  have HSL := hid hsl
  have HNOT := hid hN.out
  refine wpIn_rangeFunc_ownH rfl hm (gf := 70) (lb := #[.pointer (some ⟨PB + 1, 0, none⟩)]) rfl trivial (enters_of Tryz.func70 (by kernel_rfl) rfl)
    (bu_stops Fence.wide 7 trivial rfl (by omega) (PB + 1) b n cap zs hN.out hle V (by omega) (by omega) cB hcV) KeepB.trans (keepB_b HSL.out) (Below.refl _ _) (fun _ => rfl)
    (fun pre W => (∃ v, (Row W w.heap.size 61 [.func (.func 40) #[] #[]] ∧ Row W PB 73 [v] ∧ Row W (PB + 1) 22 [.slice (some ⟨b, 0, none⟩) n cap]) ∧ W.ownsRow (w.heap.size + 1) 9 1 v pre.length ((txL zs wd pre).map Value.string)) ∧ (Below w.heap.size w W ∧ V.heap.size ≤ W.heap.size))
    (fun _ _ _ => False)
    (OwnFrom.and (Own.from (fun s A B row hs hg hr => by obtain ⟨v, ⟨h1, h2, h0⟩, h3⟩ := hs; exact ⟨v, ⟨row_kept h1 hg hr, row_kept h2 hg hr, row_kept h0 hg hr⟩, owns_kept h3 hg hr⟩) _) (OwnFrom.and (ownFrom_below (Nat.le_refl _) (by omega)) (fun s A B row hs hg hr => Nat.le_trans hs hg.4)))
    (fun _ _ _ _ _ hs _ _ => hs)
    ⟨⟨_, ⟨q1, q2, q0⟩, OV⟩, bV, Nat.le_refl _⟩
    (fun x a' W => a' = { tmps := #[.slice (some ⟨b, 0, none⟩) n cap, .func (.func 40) #[] #[], undef, .pointer (some ⟨w.heap.size, 0, none⟩), .string ⟨#[]⟩, .pointer (some ⟨PB, 0, none⟩), .int .i64 ((n - 1 - x.1 : Nat) : Int), .int .u8 (ug zs (n - 1 - x.1)), .slice (some ⟨b, 0, none⟩) n cap, .int .i64 (n : Int), .slice (some ⟨w.heap.size + 1, 0, none⟩) 0 n, .slice (some ⟨b, 0, none⟩) n cap, .func (.func 70) #[] #[.pointer (some ⟨PB + 1, 0, none⟩)], .int .i64 ((n - 1 - x.1 : Nat) : Int), .int .u8 (ug zs (n - 1 - x.1)), undef, undef, undef, undef, undef, undef, undef, undef, undef, undef], defers := [] })
    (fun x a' => Own.from (fun s A B row hs hg hr => hs) _) ?assign ?body ?done ?stop
  case assign =>
    rintro l pre x W K ⟨⟨v, ⟨h1, h2, h0⟩, h3⟩, h4, h6⟩ hK
    have hAA := hK _ W ((KeepsOthers.refl W).from _) (KeepB.refl _ W) ⟨⟨v, ⟨h1, h2, h0⟩, h3⟩, h4, h6⟩ rfl
    clear hK
    simp only [buA]
    gi_wp2
    exact hAA
  case body =>
    rintro l pre x a' W _ _ ⟨⟨v, ⟨h1, h2, h0⟩, h3⟩, h4, h6⟩ rfl hlen
    have hx := x.2
    have hdn : n - 1 - x.1 < n := by omega
    have HSN := hid (show (txL zs wd (pre ++ [x])).map Value.string = (txL zs wd pre).map Value.string ++ [.string ⟨(txP zs wd (n - 1 - x.1)).toArray⟩] by simp [txL])
    have HFX := hid (fun W h => HF.out (n - 1 - x.1) W hdn h)
    have HDX := hid (fun W h => HD.out (n - 1 - x.1) W hdn h)
    obtain ⟨d, hd⟩ : ∃ y, n - 1 - x.1 = y := ⟨_, rfl⟩
    rw [hd] at HSN HFX HDX ⊢
    obtain ⟨T, hT⟩ : ∃ y, (⟨(txP zs wd d).toArray⟩ : ByteArray) = y := ⟨_, rfl⟩
    rw [hT] at HSN HDX
    obtain ⟨p, hp⟩ : ∃ y, ug zs d = y := ⟨_, rfl⟩
    rw [hp] at HDX ⊢
    obtain ⟨q, hq⟩ : ∃ y, ((wd d : Nat) : Int) = y := ⟨_, rfl⟩
    rw [hq] at HFX HDX
    obtain ⟨dI, hdI⟩ : ∃ y, ((d : Nat) : Int) = y := ⟨_, rfl⟩
    rw [hdI] at HFX ⊢
    have H4 := hid h4
    have lw := h4.size
    clear hd hT hp hq hdI h4
    gi_wp2
    refine region_held (S := fun W' : World => Row W' w.heap.size 61 [.func (.func 40) #[] #[]]) (by kernel_rfl) (by kernel_rfl) (fun hnd => ?_)
    obtain ⟨W0, hW0⟩ : ∃ Xq, Xq = World.drew W := ⟨_, rfl⟩
    have bR : Below W.heap.size W W0 := by rw [hW0]; exact (Below.refl _ _).drew
    have kR : KeepsOthers W W0 := by rw [hW0]; exact KeepsOthers.drew _
    replace h1 := h1.below bR h1.lt
    replace h2 := h2.below bR h2.lt
    replace h0 := h0.below bR h0.lt
    replace h3 := owns_belowP h3 bR
    rw [← hW0]
    clear hW0
    have hS0 : (fun W' : World => Row W' w.heap.size 61 [.func (.func 40) #[] #[]]) W0 := h1
    refine anyS_takeD (some 16) (i := 1) (v := ?_) hnd rfl rfl (by kernel_rfl) (by kernel_rfl) (by kernel_rfl) (fun _ _ _ h => h) ⟨by rfl, ?_, fun _ => rfl⟩ hS0 ?_
    rotate_left
    · intro w' hw'; go_simp; try with_reducible rfl
    try simp only [Act.put, List.setIfInBounds_toArray, List.set_cons_zero, List.set_cons_succ]
    refine anyS_takeD (some 17) (i := 2) (v := ?_) hnd rfl rfl (by kernel_rfl) (by kernel_rfl) (by kernel_rfl) (fun _ _ _ h => h) ⟨by rfl, ?_, fun _ => rfl⟩ hS0 ?_
    rotate_left
    · intro w' hw'; have e0 := Row.cell hw' 0; simp only [List.getElem?_cons_zero] at e0; clear hw'; go_simp; try with_reducible rfl
    try simp only [Act.put, List.setIfInBounds_toArray, List.set_cons_zero, List.set_cons_succ]
    refine anyS_takeD (some 18) (i := 3) (v := ?_) hnd rfl rfl (by kernel_rfl) (by kernel_rfl) (by kernel_rfl) (fun _ _ _ h => h) ⟨by rfl, ?_, fun _ => rfl⟩ hS0 ?_
    rotate_left
    · intro w' hw'; go_simp; try with_reducible rfl
    try simp only [Act.put, List.setIfInBounds_toArray, List.set_cons_zero, List.set_cons_succ]
    refine anyS_two (i := 0) (k := 4) (by kernel_rfl) rfl rfl (by rfl) (by rfl) (fun K hKK => ?_) (fun K hKK => ?_)
    · have kq0 := h2.cell 0
      simp only [List.getElem?_cons_zero] at kq0
      go_simp
      refine hKK _ _ hS0 ?_
      try simp only [Act.put, List.setIfInBounds_toArray, List.set_cons_zero, List.set_cons_succ]
      clear hKK K kq0
      refine anyS_call (i := 4) (by kernel_rfl) rfl (by rfl) (fun K hKK => ?_)
      go_simp
      refine ⟨trivial, (CallsIn.inRound l (callsIn_wide.2 (HFX.out W0 (H4.out.trans (bR.mono lw))))).mono ?_⟩
      rintro e v2 ⟨rfl, hB2⟩
      dsimp only
      replace h1 := h1.below hB2 h1.lt
      replace h2 := h2.below hB2 h2.lt
      replace h0 := h0.below hB2 h0.lt
      replace h3 := owns_belowP h3 hB2
      replace kR := kR.trans (keepsOthers_of hB2)
      replace bR := bR.trans (hB2.mono bR.size)
      have hS2 : (fun W' : World => Row W' w.heap.size 61 [.func (.func 40) #[] #[]]) v2 := h1
      clear hB2
      refine hKK _ _ hS2 ?_
      try simp only [Act.put, List.setIfInBounds_toArray, List.set_cons_zero, List.set_cons_succ]
      clear hKK K
      refine anyS_call (i := 5) (by kernel_rfl) rfl (by rfl) (fun K hKK => ?_)
      go_simp
      refine ⟨trivial, (CallsIn.inRound l (callsIn_wide.2 (HDX.out v2 (H4.out.trans (bR.mono lw))))).mono ?_⟩
      rintro e v3 ⟨rfl, hB3⟩
      dsimp only
      replace h1 := h1.below hB3 h1.lt
      replace h2 := h2.below hB3 h2.lt
      replace h0 := h0.below hB3 h0.lt
      replace h3 := owns_belowP h3 hB3
      replace kR := kR.trans (keepsOthers_of hB3)
      replace bR := bR.trans (hB3.mono bR.size)
      have hS3 : (fun W' : World => Row W' w.heap.size 61 [.func (.func 40) #[] #[]]) v3 := h1
      clear hB3
      refine hKK _ _ hS3 ?_
      try simp only [Act.put, List.setIfInBounds_toArray, List.set_cons_zero, List.set_cons_succ]
      clear hKK K
      refine anyS_call (i := 6) (by kernel_rfl) rfl (by rfl) (fun K hKK => ?_)
      have rn := Row.new v3 9 [.string T]
      go_simp
      replace h1 := h1.alloc (.cells #[.string T] 9)
      replace h2 := h2.alloc (.cells #[.string T] 9)
      replace h0 := h0.alloc (.cells #[.string T] 9)
      replace h3 := h3.alloc (.cells #[.string T] 9)
      replace kR := kR.trans (KeepsOthers.alloc _ (.cells #[.string T] 9))
      have lr : W.heap.size ≤ v3.heap.size := bR.size
      replace bR := bR.alloc bR.size (.cells #[.string T] 9)
      have hS4 : (fun W' : World => Row W' w.heap.size 61 [.func (.func 40) #[] #[]]) (v3.alloc (.cells #[.string T] 9)) := h1
      refine hKK _ _ hS4 ?_
      try simp only [Act.put, List.setIfInBounds_toArray, List.set_cons_zero, List.set_cons_succ]
      obtain ⟨G, hG⟩ : ∃ y, v3.heap.size = y := ⟨_, rfl⟩
      obtain ⟨X4, hX4⟩ : ∃ y, v3.alloc (.cells #[.string T] 9) = y := ⟨_, rfl⟩
      rw [hX4] at h1 h2 h0 h3 kR bR hS4 rn ⊢
      rw [hG] at rn lr ⊢
      clear hX4 hG hKK K
      refine anyS_call (i := 7) (by kernel_rfl) rfl (by rfl) (fun K hKK => ?_)
      have nc := rn.cell 0
      simp only [List.getElem?_cons_zero] at nc
      refine opIn_append_own X4 _ _ 73 rfl (w.heap.size + 1) 9 i0 (.string ⟨#[]⟩) 1 16 Tryz.underlying73 hi iz0 iz1 iz2 rfl (by decide) v _ _ rfl h3 ⟨G, 0, none⟩ 1 1 [.string T] rfl rfl (by intro j u hj; match j, hj with | 0, hj => simp at hj; subst hj; simp [Addr.add, nc]) (by intro u hu; simp at hu; subst hu; rfl) (by unfold maxLen; omega) (by omega) (by have := bR.size; omega) ?_
      intro v' w7 hown' hgrow
      obtain ⟨sa, sl, sc, rfl⟩ : ∃ a l c, v' = Value.slice a l c := (by rcases hown'.2 with ⟨h, _⟩ | ⟨g', cap', cur, h, _⟩; exact ⟨_, _, _, h⟩; exact ⟨_, _, _, h⟩)
      have k1 := h1.grown' hgrow (owns_lt h3 (by omega))
      have k2 := h2.grown' hgrow (owns_ne h3 h2 (by decide))
      have k0 := h0.grown' hgrow (owns_ne h3 h0 (by decide))
      have hz7 := hgrow.size
      have ko : KeepsOthers X4 w7 := KeepsOthers.of_grownBy hgrow (fun j o hj ho => by
        rcases h3.2 with ⟨rfl, _⟩ | ⟨g', cap', cur, rfl, q2, q3, _⟩
        · cases hj
        · have : g' = j := Option.some.inj hj
          subst this
          rw [q3] at ho
          cases ho
          rfl)
      have kb := hid (show KeepB (fun g => g = b ∨ g = PB + 1) W (w7.setCell ⟨PB, 0, none⟩ (.slice sa sl sc)) from fun g hg => by
        have hgV := HSL.out g hg
        have e1 := bR.block g (Nat.lt_of_lt_of_le hgV h6)
        have e3 := hgrow.block g (Nat.lt_of_lt_of_le (Nat.lt_of_lt_of_le hgV h6) bR.size) (by rcases hg with rfl | rfl; exact owns_lt h3 (by omega); exact owns_ne h3 h0 (by decide))
        have e4 := Below.heap_setCell w7 ⟨PB, 0, none⟩ (.slice sa sl sc) g (by rcases hg with rfl | rfl <;> simp <;> omega)
        rw [e4, e3, e1])
      have bel := hid (show Below w.heap.size w (w7.setCell ⟨PB, 0, none⟩ (.slice sa sl sc)) from ((H4.out.trans (bR.mono lw)).grown hgrow (by have := bR.size; omega) (fun k e => by have := owns_lt h3 (g := k); by_cases hk : w.heap.size ≤ k; exact hk; exact absurd e.symm (this (by omega)))).setCell (p := ⟨PB, 0, none⟩) (by show _ ≤ PB; omega) _)
      have kf := hid (kR.trans (ko.trans (KeepsOthers.setCell _ ⟨PB, 0, none⟩ (.slice sa sl sc))))
      have ST := hid (show Row (w7.setCell ⟨PB, 0, none⟩ (.slice sa sl sc)) w.heap.size 61 [.func (.func 40) #[] #[]] ∧ Row (w7.setCell ⟨PB, 0, none⟩ (.slice sa sl sc)) PB 73 [.slice sa sl sc] ∧ Row (w7.setCell ⟨PB, 0, none⟩ (.slice sa sl sc)) (PB + 1) 22 [.slice (some ⟨b, 0, none⟩) n cap] from ⟨k1.other (by show PB ≠ w.heap.size; omega) _, k2.set 0 (.slice sa sl sc), k0.other (by show PB ≠ PB + 1; omega) _⟩)
      have OW := hid (show (w7.setCell ⟨PB, 0, none⟩ (.slice sa sl sc)).ownsRow (w.heap.size + 1) 9 1 (.slice sa sl sc) (pre.length + 1) (((txL zs wd pre).map Value.string) ++ [.string T]) from owns_other hown' k2 (by decide) _)
      have zW : W.heap.size ≤ (w7.setCell ⟨PB, 0, none⟩ (.slice sa sl sc)).heap.size := by have := bR.size; simp; omega
      have k1' := k1
      have cL7 := k2.cell 0
      have fL7 := k2.frozen 0
      simp only [List.getElem?_cons_zero] at cL7
      have hS7 : (fun W' : World => Row W' w.heap.size 61 [.func (.func 40) #[] #[]]) w7 := k1
      refine hKK _ _ hS7 ?_
      try simp only [Act.put, List.setIfInBounds_toArray, List.set_cons_zero, List.set_cons_succ]
      clear hKK K hown' hgrow h1 h2 h0 h3 rn bR kR ko hS4
      refine anyS_oneD none (i := 8) (w' := w7.setCell ⟨PB, 0, none⟩ (.slice sa sl sc)) hnd (by kernel_rfl) rfl rfl (by rfl) rfl ?_ ?_ (anyS_done (by kernel_rfl) ?_ _)
      · go_simp
      · exact ST.out.1
      try simp only [Act.put, List.setIfInBounds_toArray, List.set_cons_zero, List.set_cons_succ]
      gi_wp2
      exact ⟨kf.out.from _, kb.out, ⟨.slice sa sl sc, ST.out, by rw [HSN.out, List.length_append]; exact OW.out⟩, bel.out, by omega⟩
    · go_simp
      refine ⟨trivial, (CallsIn.inRound l (callsIn_wide.2 (HFX.out W0 (H4.out.trans (bR.mono lw))))).mono ?_⟩
      rintro e v5 ⟨rfl, hB5⟩
      dsimp only
      replace h1 := h1.below hB5 h1.lt
      replace h2 := h2.below hB5 h2.lt
      replace h0 := h0.below hB5 h0.lt
      replace h3 := owns_belowP h3 hB5
      replace kR := kR.trans (keepsOthers_of hB5)
      replace bR := bR.trans (hB5.mono bR.size)
      have hS5 : (fun W' : World => Row W' w.heap.size 61 [.func (.func 40) #[] #[]]) v5 := h1
      clear hB5
      refine hKK _ _ hS5 ?_
      try simp only [Act.put, List.setIfInBounds_toArray, List.set_cons_zero, List.set_cons_succ]
      clear hKK K
      refine anyS_two (i := 0) (k := 5) (by kernel_rfl) rfl rfl (by rfl) (by rfl) (fun K hKK => ?_) (fun K hKK => ?_)
      · have kq0 := h2.cell 0
        simp only [List.getElem?_cons_zero] at kq0
        go_simp
        refine hKK _ _ hS5 ?_
        try simp only [Act.put, List.setIfInBounds_toArray, List.set_cons_zero, List.set_cons_succ]
        clear hKK K kq0
        refine anyS_call (i := 5) (by kernel_rfl) rfl (by rfl) (fun K hKK => ?_)
        go_simp
        refine ⟨trivial, (CallsIn.inRound l (callsIn_wide.2 (HDX.out v5 (H4.out.trans (bR.mono lw))))).mono ?_⟩
        rintro e v7 ⟨rfl, hB7⟩
        dsimp only
        replace h1 := h1.below hB7 h1.lt
        replace h2 := h2.below hB7 h2.lt
        replace h0 := h0.below hB7 h0.lt
        replace h3 := owns_belowP h3 hB7
        replace kR := kR.trans (keepsOthers_of hB7)
        replace bR := bR.trans (hB7.mono bR.size)
        have hS7 : (fun W' : World => Row W' w.heap.size 61 [.func (.func 40) #[] #[]]) v7 := h1
        clear hB7
        refine hKK _ _ hS7 ?_
        try simp only [Act.put, List.setIfInBounds_toArray, List.set_cons_zero, List.set_cons_succ]
        clear hKK K
        refine anyS_call (i := 6) (by kernel_rfl) rfl (by rfl) (fun K hKK => ?_)
        have rn := Row.new v7 9 [.string T]
        go_simp
        replace h1 := h1.alloc (.cells #[.string T] 9)
        replace h2 := h2.alloc (.cells #[.string T] 9)
        replace h0 := h0.alloc (.cells #[.string T] 9)
        replace h3 := h3.alloc (.cells #[.string T] 9)
        replace kR := kR.trans (KeepsOthers.alloc _ (.cells #[.string T] 9))
        have lr : W.heap.size ≤ v7.heap.size := bR.size
        replace bR := bR.alloc bR.size (.cells #[.string T] 9)
        have hS8 : (fun W' : World => Row W' w.heap.size 61 [.func (.func 40) #[] #[]]) (v7.alloc (.cells #[.string T] 9)) := h1
        refine hKK _ _ hS8 ?_
        try simp only [Act.put, List.setIfInBounds_toArray, List.set_cons_zero, List.set_cons_succ]
        obtain ⟨G, hG⟩ : ∃ y, v7.heap.size = y := ⟨_, rfl⟩
        obtain ⟨X8, hX8⟩ : ∃ y, v7.alloc (.cells #[.string T] 9) = y := ⟨_, rfl⟩
        rw [hX8] at h1 h2 h0 h3 kR bR hS8 rn ⊢
        rw [hG] at rn lr ⊢
        clear hX8 hG hKK K
        refine anyS_call (i := 7) (by kernel_rfl) rfl (by rfl) (fun K hKK => ?_)
        have nc := rn.cell 0
        simp only [List.getElem?_cons_zero] at nc
        refine opIn_append_own X8 _ _ 73 rfl (w.heap.size + 1) 9 i0 (.string ⟨#[]⟩) 1 16 Tryz.underlying73 hi iz0 iz1 iz2 rfl (by decide) v _ _ rfl h3 ⟨G, 0, none⟩ 1 1 [.string T] rfl rfl (by intro j u hj; match j, hj with | 0, hj => simp at hj; subst hj; simp [Addr.add, nc]) (by intro u hu; simp at hu; subst hu; rfl) (by unfold maxLen; omega) (by omega) (by have := bR.size; omega) ?_
        intro v' w7 hown' hgrow
        obtain ⟨sa, sl, sc, rfl⟩ : ∃ a l c, v' = Value.slice a l c := (by rcases hown'.2 with ⟨h, _⟩ | ⟨g', cap', cur, h, _⟩; exact ⟨_, _, _, h⟩; exact ⟨_, _, _, h⟩)
        have k1 := h1.grown' hgrow (owns_lt h3 (by omega))
        have k2 := h2.grown' hgrow (owns_ne h3 h2 (by decide))
        have k0 := h0.grown' hgrow (owns_ne h3 h0 (by decide))
        have hz7 := hgrow.size
        have ko : KeepsOthers X8 w7 := KeepsOthers.of_grownBy hgrow (fun j o hj ho => by
          rcases h3.2 with ⟨rfl, _⟩ | ⟨g', cap', cur, rfl, q2, q3, _⟩
          · cases hj
          · have : g' = j := Option.some.inj hj
            subst this
            rw [q3] at ho
            cases ho
            rfl)
        have kb := hid (show KeepB (fun g => g = b ∨ g = PB + 1) W (w7.setCell ⟨PB, 0, none⟩ (.slice sa sl sc)) from fun g hg => by
          have hgV := HSL.out g hg
          have e1 := bR.block g (Nat.lt_of_lt_of_le hgV h6)
          have e3 := hgrow.block g (Nat.lt_of_lt_of_le (Nat.lt_of_lt_of_le hgV h6) bR.size) (by rcases hg with rfl | rfl; exact owns_lt h3 (by omega); exact owns_ne h3 h0 (by decide))
          have e4 := Below.heap_setCell w7 ⟨PB, 0, none⟩ (.slice sa sl sc) g (by rcases hg with rfl | rfl <;> simp <;> omega)
          rw [e4, e3, e1])
        have bel := hid (show Below w.heap.size w (w7.setCell ⟨PB, 0, none⟩ (.slice sa sl sc)) from ((H4.out.trans (bR.mono lw)).grown hgrow (by have := bR.size; omega) (fun k e => by have := owns_lt h3 (g := k); by_cases hk : w.heap.size ≤ k; exact hk; exact absurd e.symm (this (by omega)))).setCell (p := ⟨PB, 0, none⟩) (by show _ ≤ PB; omega) _)
        have kf := hid (kR.trans (ko.trans (KeepsOthers.setCell _ ⟨PB, 0, none⟩ (.slice sa sl sc))))
        have ST := hid (show Row (w7.setCell ⟨PB, 0, none⟩ (.slice sa sl sc)) w.heap.size 61 [.func (.func 40) #[] #[]] ∧ Row (w7.setCell ⟨PB, 0, none⟩ (.slice sa sl sc)) PB 73 [.slice sa sl sc] ∧ Row (w7.setCell ⟨PB, 0, none⟩ (.slice sa sl sc)) (PB + 1) 22 [.slice (some ⟨b, 0, none⟩) n cap] from ⟨k1.other (by show PB ≠ w.heap.size; omega) _, k2.set 0 (.slice sa sl sc), k0.other (by show PB ≠ PB + 1; omega) _⟩)
        have OW := hid (show (w7.setCell ⟨PB, 0, none⟩ (.slice sa sl sc)).ownsRow (w.heap.size + 1) 9 1 (.slice sa sl sc) (pre.length + 1) (((txL zs wd pre).map Value.string) ++ [.string T]) from owns_other hown' k2 (by decide) _)
        have zW : W.heap.size ≤ (w7.setCell ⟨PB, 0, none⟩ (.slice sa sl sc)).heap.size := by have := bR.size; simp; omega
        have k1' := k1
        have cL7 := k2.cell 0
        have fL7 := k2.frozen 0
        simp only [List.getElem?_cons_zero] at cL7
        have hS7 : (fun W' : World => Row W' w.heap.size 61 [.func (.func 40) #[] #[]]) w7 := k1
        refine hKK _ _ hS7 ?_
        try simp only [Act.put, List.setIfInBounds_toArray, List.set_cons_zero, List.set_cons_succ]
        clear hKK K hown' hgrow h1 h2 h0 h3 rn bR kR ko hS8
        refine anyS_oneD none (i := 8) (w' := w7.setCell ⟨PB, 0, none⟩ (.slice sa sl sc)) hnd (by kernel_rfl) rfl rfl (by rfl) rfl ?_ ?_ (anyS_done (by kernel_rfl) ?_ _)
        · go_simp
        · exact ST.out.1
        try simp only [Act.put, List.setIfInBounds_toArray, List.set_cons_zero, List.set_cons_succ]
        gi_wp2
        exact ⟨kf.out.from _, kb.out, ⟨.slice sa sl sc, ST.out, by rw [HSN.out, List.length_append]; exact OW.out⟩, bel.out, by omega⟩
      · go_simp
        refine ⟨trivial, (CallsIn.inRound l (callsIn_wide.2 (HDX.out v5 (H4.out.trans (bR.mono lw))))).mono ?_⟩
        rintro e v9 ⟨rfl, hB9⟩
        dsimp only
        replace h1 := h1.below hB9 h1.lt
        replace h2 := h2.below hB9 h2.lt
        replace h0 := h0.below hB9 h0.lt
        replace h3 := owns_belowP h3 hB9
        replace kR := kR.trans (keepsOthers_of hB9)
        replace bR := bR.trans (hB9.mono bR.size)
        have hS9 : (fun W' : World => Row W' w.heap.size 61 [.func (.func 40) #[] #[]]) v9 := h1
        clear hB9
        refine hKK _ _ hS9 ?_
        try simp only [Act.put, List.setIfInBounds_toArray, List.set_cons_zero, List.set_cons_succ]
        clear hKK K
        refine anyS_two (i := 0) (k := 6) (by kernel_rfl) rfl rfl (by rfl) (by rfl) (fun K hKK => ?_) (fun K hKK => ?_)
        · have kq0 := h2.cell 0
          simp only [List.getElem?_cons_zero] at kq0
          go_simp
          refine hKK _ _ hS9 ?_
          try simp only [Act.put, List.setIfInBounds_toArray, List.set_cons_zero, List.set_cons_succ]
          clear hKK K kq0
          refine anyS_call (i := 6) (by kernel_rfl) rfl (by rfl) (fun K hKK => ?_)
          have rn := Row.new v9 9 [.string T]
          go_simp
          replace h1 := h1.alloc (.cells #[.string T] 9)
          replace h2 := h2.alloc (.cells #[.string T] 9)
          replace h0 := h0.alloc (.cells #[.string T] 9)
          replace h3 := h3.alloc (.cells #[.string T] 9)
          replace kR := kR.trans (KeepsOthers.alloc _ (.cells #[.string T] 9))
          have lr : W.heap.size ≤ v9.heap.size := bR.size
          replace bR := bR.alloc bR.size (.cells #[.string T] 9)
          have hS11 : (fun W' : World => Row W' w.heap.size 61 [.func (.func 40) #[] #[]]) (v9.alloc (.cells #[.string T] 9)) := h1
          refine hKK _ _ hS11 ?_
          try simp only [Act.put, List.setIfInBounds_toArray, List.set_cons_zero, List.set_cons_succ]
          obtain ⟨G, hG⟩ : ∃ y, v9.heap.size = y := ⟨_, rfl⟩
          obtain ⟨X11, hX11⟩ : ∃ y, v9.alloc (.cells #[.string T] 9) = y := ⟨_, rfl⟩
          rw [hX11] at h1 h2 h0 h3 kR bR hS11 rn ⊢
          rw [hG] at rn lr ⊢
          clear hX11 hG hKK K
          refine anyS_call (i := 7) (by kernel_rfl) rfl (by rfl) (fun K hKK => ?_)
          have nc := rn.cell 0
          simp only [List.getElem?_cons_zero] at nc
          refine opIn_append_own X11 _ _ 73 rfl (w.heap.size + 1) 9 i0 (.string ⟨#[]⟩) 1 16 Tryz.underlying73 hi iz0 iz1 iz2 rfl (by decide) v _ _ rfl h3 ⟨G, 0, none⟩ 1 1 [.string T] rfl rfl (by intro j u hj; match j, hj with | 0, hj => simp at hj; subst hj; simp [Addr.add, nc]) (by intro u hu; simp at hu; subst hu; rfl) (by unfold maxLen; omega) (by omega) (by have := bR.size; omega) ?_
          intro v' w7 hown' hgrow
          obtain ⟨sa, sl, sc, rfl⟩ : ∃ a l c, v' = Value.slice a l c := (by rcases hown'.2 with ⟨h, _⟩ | ⟨g', cap', cur, h, _⟩; exact ⟨_, _, _, h⟩; exact ⟨_, _, _, h⟩)
          have k1 := h1.grown' hgrow (owns_lt h3 (by omega))
          have k2 := h2.grown' hgrow (owns_ne h3 h2 (by decide))
          have k0 := h0.grown' hgrow (owns_ne h3 h0 (by decide))
          have hz7 := hgrow.size
          have ko : KeepsOthers X11 w7 := KeepsOthers.of_grownBy hgrow (fun j o hj ho => by
            rcases h3.2 with ⟨rfl, _⟩ | ⟨g', cap', cur, rfl, q2, q3, _⟩
            · cases hj
            · have : g' = j := Option.some.inj hj
              subst this
              rw [q3] at ho
              cases ho
              rfl)
          have kb := hid (show KeepB (fun g => g = b ∨ g = PB + 1) W (w7.setCell ⟨PB, 0, none⟩ (.slice sa sl sc)) from fun g hg => by
            have hgV := HSL.out g hg
            have e1 := bR.block g (Nat.lt_of_lt_of_le hgV h6)
            have e3 := hgrow.block g (Nat.lt_of_lt_of_le (Nat.lt_of_lt_of_le hgV h6) bR.size) (by rcases hg with rfl | rfl; exact owns_lt h3 (by omega); exact owns_ne h3 h0 (by decide))
            have e4 := Below.heap_setCell w7 ⟨PB, 0, none⟩ (.slice sa sl sc) g (by rcases hg with rfl | rfl <;> simp <;> omega)
            rw [e4, e3, e1])
          have bel := hid (show Below w.heap.size w (w7.setCell ⟨PB, 0, none⟩ (.slice sa sl sc)) from ((H4.out.trans (bR.mono lw)).grown hgrow (by have := bR.size; omega) (fun k e => by have := owns_lt h3 (g := k); by_cases hk : w.heap.size ≤ k; exact hk; exact absurd e.symm (this (by omega)))).setCell (p := ⟨PB, 0, none⟩) (by show _ ≤ PB; omega) _)
          have kf := hid (kR.trans (ko.trans (KeepsOthers.setCell _ ⟨PB, 0, none⟩ (.slice sa sl sc))))
          have ST := hid (show Row (w7.setCell ⟨PB, 0, none⟩ (.slice sa sl sc)) w.heap.size 61 [.func (.func 40) #[] #[]] ∧ Row (w7.setCell ⟨PB, 0, none⟩ (.slice sa sl sc)) PB 73 [.slice sa sl sc] ∧ Row (w7.setCell ⟨PB, 0, none⟩ (.slice sa sl sc)) (PB + 1) 22 [.slice (some ⟨b, 0, none⟩) n cap] from ⟨k1.other (by show PB ≠ w.heap.size; omega) _, k2.set 0 (.slice sa sl sc), k0.other (by show PB ≠ PB + 1; omega) _⟩)
          have OW := hid (show (w7.setCell ⟨PB, 0, none⟩ (.slice sa sl sc)).ownsRow (w.heap.size + 1) 9 1 (.slice sa sl sc) (pre.length + 1) (((txL zs wd pre).map Value.string) ++ [.string T]) from owns_other hown' k2 (by decide) _)
          have zW : W.heap.size ≤ (w7.setCell ⟨PB, 0, none⟩ (.slice sa sl sc)).heap.size := by have := bR.size; simp; omega
          have k1' := k1
          have cL7 := k2.cell 0
          have fL7 := k2.frozen 0
          simp only [List.getElem?_cons_zero] at cL7
          have hS7 : (fun W' : World => Row W' w.heap.size 61 [.func (.func 40) #[] #[]]) w7 := k1
          refine hKK _ _ hS7 ?_
          try simp only [Act.put, List.setIfInBounds_toArray, List.set_cons_zero, List.set_cons_succ]
          clear hKK K hown' hgrow h1 h2 h0 h3 rn bR kR ko hS11
          refine anyS_oneD none (i := 8) (w' := w7.setCell ⟨PB, 0, none⟩ (.slice sa sl sc)) hnd (by kernel_rfl) rfl rfl (by rfl) rfl ?_ ?_ (anyS_done (by kernel_rfl) ?_ _)
          · go_simp
          · exact ST.out.1
          try simp only [Act.put, List.setIfInBounds_toArray, List.set_cons_zero, List.set_cons_succ]
          gi_wp2
          exact ⟨kf.out.from _, kb.out, ⟨.slice sa sl sc, ST.out, by rw [HSN.out, List.length_append]; exact OW.out⟩, bel.out, by omega⟩
        · have rn := Row.new v9 9 [.string T]
          go_simp
          replace h1 := h1.alloc (.cells #[.string T] 9)
          replace h2 := h2.alloc (.cells #[.string T] 9)
          replace h0 := h0.alloc (.cells #[.string T] 9)
          replace h3 := h3.alloc (.cells #[.string T] 9)
          replace kR := kR.trans (KeepsOthers.alloc _ (.cells #[.string T] 9))
          have lr : W.heap.size ≤ v9.heap.size := bR.size
          replace bR := bR.alloc bR.size (.cells #[.string T] 9)
          have hS12 : (fun W' : World => Row W' w.heap.size 61 [.func (.func 40) #[] #[]]) (v9.alloc (.cells #[.string T] 9)) := h1
          refine hKK _ _ hS12 ?_
          try simp only [Act.put, List.setIfInBounds_toArray, List.set_cons_zero, List.set_cons_succ]
          obtain ⟨G, hG⟩ : ∃ y, v9.heap.size = y := ⟨_, rfl⟩
          obtain ⟨X12, hX12⟩ : ∃ y, v9.alloc (.cells #[.string T] 9) = y := ⟨_, rfl⟩
          rw [hX12] at h1 h2 h0 h3 kR bR hS12 rn ⊢
          rw [hG] at rn lr ⊢
          clear hX12 hG hKK K
          refine anyS_call (i := 0) (by kernel_rfl) rfl (by rfl) (fun K hKK => ?_)
          have kq0 := h2.cell 0
          simp only [List.getElem?_cons_zero] at kq0
          go_simp
          refine hKK _ _ hS12 ?_
          try simp only [Act.put, List.setIfInBounds_toArray, List.set_cons_zero, List.set_cons_succ]
          clear hKK K kq0
          refine anyS_call (i := 7) (by kernel_rfl) rfl (by rfl) (fun K hKK => ?_)
          have nc := rn.cell 0
          simp only [List.getElem?_cons_zero] at nc
          refine opIn_append_own X12 _ _ 73 rfl (w.heap.size + 1) 9 i0 (.string ⟨#[]⟩) 1 16 Tryz.underlying73 hi iz0 iz1 iz2 rfl (by decide) v _ _ rfl h3 ⟨G, 0, none⟩ 1 1 [.string T] rfl rfl (by intro j u hj; match j, hj with | 0, hj => simp at hj; subst hj; simp [Addr.add, nc]) (by intro u hu; simp at hu; subst hu; rfl) (by unfold maxLen; omega) (by omega) (by have := bR.size; omega) ?_
          intro v' w7 hown' hgrow
          obtain ⟨sa, sl, sc, rfl⟩ : ∃ a l c, v' = Value.slice a l c := (by rcases hown'.2 with ⟨h, _⟩ | ⟨g', cap', cur, h, _⟩; exact ⟨_, _, _, h⟩; exact ⟨_, _, _, h⟩)
          have k1 := h1.grown' hgrow (owns_lt h3 (by omega))
          have k2 := h2.grown' hgrow (owns_ne h3 h2 (by decide))
          have k0 := h0.grown' hgrow (owns_ne h3 h0 (by decide))
          have hz7 := hgrow.size
          have ko : KeepsOthers X12 w7 := KeepsOthers.of_grownBy hgrow (fun j o hj ho => by
            rcases h3.2 with ⟨rfl, _⟩ | ⟨g', cap', cur, rfl, q2, q3, _⟩
            · cases hj
            · have : g' = j := Option.some.inj hj
              subst this
              rw [q3] at ho
              cases ho
              rfl)
          have kb := hid (show KeepB (fun g => g = b ∨ g = PB + 1) W (w7.setCell ⟨PB, 0, none⟩ (.slice sa sl sc)) from fun g hg => by
            have hgV := HSL.out g hg
            have e1 := bR.block g (Nat.lt_of_lt_of_le hgV h6)
            have e3 := hgrow.block g (Nat.lt_of_lt_of_le (Nat.lt_of_lt_of_le hgV h6) bR.size) (by rcases hg with rfl | rfl; exact owns_lt h3 (by omega); exact owns_ne h3 h0 (by decide))
            have e4 := Below.heap_setCell w7 ⟨PB, 0, none⟩ (.slice sa sl sc) g (by rcases hg with rfl | rfl <;> simp <;> omega)
            rw [e4, e3, e1])
          have bel := hid (show Below w.heap.size w (w7.setCell ⟨PB, 0, none⟩ (.slice sa sl sc)) from ((H4.out.trans (bR.mono lw)).grown hgrow (by have := bR.size; omega) (fun k e => by have := owns_lt h3 (g := k); by_cases hk : w.heap.size ≤ k; exact hk; exact absurd e.symm (this (by omega)))).setCell (p := ⟨PB, 0, none⟩) (by show _ ≤ PB; omega) _)
          have kf := hid (kR.trans (ko.trans (KeepsOthers.setCell _ ⟨PB, 0, none⟩ (.slice sa sl sc))))
          have ST := hid (show Row (w7.setCell ⟨PB, 0, none⟩ (.slice sa sl sc)) w.heap.size 61 [.func (.func 40) #[] #[]] ∧ Row (w7.setCell ⟨PB, 0, none⟩ (.slice sa sl sc)) PB 73 [.slice sa sl sc] ∧ Row (w7.setCell ⟨PB, 0, none⟩ (.slice sa sl sc)) (PB + 1) 22 [.slice (some ⟨b, 0, none⟩) n cap] from ⟨k1.other (by show PB ≠ w.heap.size; omega) _, k2.set 0 (.slice sa sl sc), k0.other (by show PB ≠ PB + 1; omega) _⟩)
          have OW := hid (show (w7.setCell ⟨PB, 0, none⟩ (.slice sa sl sc)).ownsRow (w.heap.size + 1) 9 1 (.slice sa sl sc) (pre.length + 1) (((txL zs wd pre).map Value.string) ++ [.string T]) from owns_other hown' k2 (by decide) _)
          have zW : W.heap.size ≤ (w7.setCell ⟨PB, 0, none⟩ (.slice sa sl sc)).heap.size := by have := bR.size; simp; omega
          have k1' := k1
          have cL7 := k2.cell 0
          have fL7 := k2.frozen 0
          simp only [List.getElem?_cons_zero] at cL7
          have hS7 : (fun W' : World => Row W' w.heap.size 61 [.func (.func 40) #[] #[]]) w7 := k1
          refine hKK _ _ hS7 ?_
          try simp only [Act.put, List.setIfInBounds_toArray, List.set_cons_zero, List.set_cons_succ]
          clear hKK K hown' hgrow h1 h2 h0 h3 rn bR kR ko hS12
          refine anyS_oneD none (i := 8) (w' := w7.setCell ⟨PB, 0, none⟩ (.slice sa sl sc)) hnd (by kernel_rfl) rfl rfl (by rfl) rfl ?_ ?_ (anyS_done (by kernel_rfl) ?_ _)
          · go_simp
          · exact ST.out.1
          try simp only [Act.put, List.setIfInBounds_toArray, List.set_cons_zero, List.set_cons_succ]
          gi_wp2
          exact ⟨kf.out.from _, kb.out, ⟨.slice sa sl sc, ST.out, by rw [HSN.out, List.length_append]; exact OW.out⟩, bel.out, by omega⟩
  case done =>
    rintro D ys W hD rfl ⟨⟨v, ⟨h1, h2, h0⟩, h3⟩, h4, h6⟩ hK
    have cL := h2.cell 0
    simp only [List.getElem?_cons_zero] at cL
    have hfl : (List.finRange n).length = n := by simp
    rw [hfl] at h3
    have htl : (txL zs wd (List.finRange n)).length = n := by simp [txL]
    have hTT := hid (show Lib.join ((txL zs wd (List.finRange n)).map (·.data.toList)) [58] = txT zs wd by unfold txT; rw [← hN.out])
    rcases h3.2 with h90 | ⟨g, gcap, cur, rfl, h92, h93, h94⟩
    · exact absurd h90.2 (by omega)
    have HJ := hid (Tryz.strings_Join g 0 gcap (txL zs wd (List.finRange n)) ⟨#[58]⟩ W (own_cells h3) (lt_of_block h93) (by rw [htl]; omega) (by rw [htl]; exact own_cap h3) (by rw [hTT.out]; have := HL.out; omega))
    rw [htl, hTT.out] at HJ
    have H4 := hid h4
    have lw := h4.size
    have HK := hid hK
    have hDw := hD
    clear h1 h2 h0 h3 h4 h92 h93 h94 hK
    gi_wp2_with (gi_at_call 59; refine (callsIn_wide.2 HJ.out).mono ?_; rintro e w9 ⟨rfl, hB9⟩)
    have hK9 := (hB9.block D (lt_of_block HK.out)).trans HK.out
    refine ⟨by simp, .inl ⟨_, _, rfl, run_takeDeferred hK9, ?_⟩⟩
    exact ⟨_, results_tmp rfl _ _ _, rfl, (H4.out.trans (hB9.mono lw)).trans (belowK_b (w := w) (n₀ := w.heap.size) (Nat.le_refl _) w9 D (.deferred (some [])) (.deferred none) (by omega) hK9 rfl rfl)⟩
  case stop =>
    rintro D c pre W _ _ h _
    exact h.elim
end
end Go.Proofs.YtfifnngdmhdkiaaGreatDoor
