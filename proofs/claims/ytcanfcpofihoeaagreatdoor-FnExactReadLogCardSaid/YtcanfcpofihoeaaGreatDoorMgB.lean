/- Texts of this seat, merged: TxC TxD TxE TxF Set Of Sizes Count OfC OfS LgA DgV RdM SpA SpB OwnB SpC LnM LnJ LnK NmD PiM SbB Rlf RstM RdD RgM Tvals OwnG Rst. -/
import Derived.Lib.Join
import Derived.WalkSmall
import Derived.Lib.Split
import Derived.Lib.IndexBytes
import Derived.Lib.IndexLaws
import Derived.Lib.IndexMore
import Derived.Lib.ItoaNum
import Derived.Lib.ParseIntBCases
import Derived.Laws.Strings
import Derived.OwnWalk
import Derived.Deep.QuietTactic
import Derived.Lib.ParseIntB
import Derived.Lib.ParseIntBTie
import Derived.Lib.AtoiErrMem
import Derived.Test.YtcanfcpofihoeaaGreatDoorMgA

namespace Go.Proofs.YtcanfcpofihoeaaGreatDoor
open Go.RowKit Go.Shelf
set_option linter.unusedVariables false
set_option linter.unusedSimpArgs false
/-- the text of the wheel j, at a width of its own -/
def txP (zs : List Int) (wd : Nat → Nat) (j : Nat) : List UInt8 := padZ (wd j) (Lib.itoa (ug zs j))
def txL {n : Nat} (zs : List Int) (wd : Nat → Nat) (pre : List (Fin n)) : List ByteArray := pre.map fun x => ⟨(txP zs wd (n - 1 - x.1)).toArray⟩
def txT (zs : List Int) (wd : Nat → Nat) : List UInt8 := Lib.join ((txL zs wd (List.finRange zs.length)).map (·.data.toList)) [58]
theorem owns_ne {w : World} {base size n g : Nat} {e e' : TypeId} {v : Value} {xs ys : List Value} (h : w.ownsRow base e size v n xs) (hr : Row w g e' ys) (hne : e ≠ e') : some g ≠ v.ownBlock := fun he => by
  rcases h.2 with ⟨rfl, _⟩ | ⟨g', cap, cur, rfl, h2, h3, _⟩
  · cases he
  · have : g = g' := Option.some.inj he
    subst this
    rw [hr] at h3
    simp only [Option.some.injEq, Obj.cells.injEq] at h3
    exact hne h3.2.1.symm
section
attribute [local go_sem] Oper.semAt_some
theorem owns_other {w : World} {base size n g : Nat} {e e' : TypeId} {v : Value} {xs ys : List Value} (h : w.ownsRow base e size v n xs) (hr : Row w g e' ys) (hne : e ≠ e') (u : Value) : (w.setCell ⟨g, 0, none⟩ u).ownsRow base e size v n xs := by
  have hn := owns_ne h hr hne
  refine ⟨h.1, ?_⟩
  rcases h.2 with h0 | ⟨g', cap, cur, rfl, h2, h3, h4⟩
  · exact .inl h0
  · exact .inr ⟨g', cap, cur, rfl, h2, (Below.heap_setCell w ⟨g, 0, none⟩ u g' (fun e => hn (congrArg some e.symm))).trans h3, h4⟩
theorem own_cap {w : World} {base n g cap k : Nat} {e : TypeId} {xs : List Value} (h : w.ownsRow base e 1 (.slice (some ⟨g, 0, none⟩) k cap) n xs) : n ≤ cap := by
  rcases h.2 with ⟨h', _⟩ | ⟨g', cap', cur, h', hb, hg, hnc, _⟩
  · simp at h'
  · simp only [Value.slice.injEq, Option.some.injEq, Addr.mk.injEq, and_true, true_and] at h'
    obtain ⟨_, _, rfl⟩ := h'
    exact hnc
theorem own_cells {w : World} {base n g cap k : Nat} {e : TypeId} {ss : List ByteArray} (h : w.ownsRow base e 1 (.slice (some ⟨g, 0, none⟩) k cap) n (ss.map Value.string)) : ∀ (j : Nat) x, ss[j]? = some x → w.cell? ⟨g, 0 + j, none⟩ = some (.string x) := fun j x hj => by
  rcases h.2 with ⟨h', _⟩ | ⟨g', cap', cur, h', hb, hg, hnc, hcm, hcs, htake⟩
  · simp at h'
  · simp only [Value.slice.injEq, Option.some.injEq, Addr.mk.injEq, and_true, true_and] at h'
    obtain ⟨rfl, _, _⟩ := h'
    rw [cell_of_row w g (0 + j) _ e (0, 0) hg]
    have : (cur.toList.take (n * 1))[j]? = some (.string x) := by rw [htake]; simp [hj]
    rw [List.getElem?_take] at this
    split at this
    · simpa using this
    · cases this
set_option maxRecDepth 100000 in
set_option maxHeartbeats 4000000 in
theorem textLFD_any (cb : Nat) (b n cap : Nat) (zs : List Int) (hn : n = zs.length) (h1n : 1 ≤ n) (wd : Nat → Nat) (w : World) (hS : Stk w b zs)
    (hF : ∀ (k : Nat) W, k < n → Below w.heap.size w W → Calls Tryz.prog 54 #[.int .i64 (k : Int), .pointer (some ⟨cb, 0, none⟩)] W fun e w' => e = .returned (.int .i64 ((wd k : Nat) : Int)) ∧ Below W.heap.size W w')
    (hD : ∀ (k : Nat) W, k < n → Below w.heap.size w W → Calls Tryz.prog 55 #[.int .u8 (ug zs k), .int .i64 ((wd k : Nat) : Int)] W fun e w' => e = .returned (.string ⟨(txP zs wd k).toArray⟩) ∧ Below W.heap.size W w')
    (hlen : (txT zs wd).length ≤ 1000000) :
    Calls Tryz.prog 53 #[.slice (some ⟨b, 0, none⟩) n cap, .func (.func 54) #[] #[.pointer (some ⟨cb, 0, none⟩)]] w fun e w' => e = .returned (.string ⟨(txT zs wd).toArray⟩) ∧ Below w.heap.size w w' := by
  obtain ⟨i0, hi, iz0, iz1, iz2⟩ := info_parts Tryz.infoStr
  have hle := hS.2.2.2
  rw [← hn] at hle
  have hC := hid hS.2.1
  have hbl := hS.1
  have hm : 1 ≤ 8 := by omega
  have hN := hid hn
  have HF := hid hF
  have HD := hid hD
  have HL := hid hlen
  clear hS hn hF hD hlen
  have g3 : Fence.wide.fn 77 := trivial
  have g4 : Fence.wide.fn 78 := trivial
  have qF := Row.new w 93 [.func (.func 54) #[] #[.pointer (some ⟨cb, 0, none⟩)]]
  refine (callsIn_wide (n := 8)).1 ?_
  refine callsIn_of_wp_marks Tryz.func53 rfl trivial ?_ rfl
  simp only [Tryz.ntmps53, List.size_toArray, List.length_cons, List.length_nil, Nat.reduceAdd, Nat.reduceSub, Array.replicate_succ, Array.replicate_zero, List.push_toArray, List.append_toArray, List.nil_append, List.cons_append]
  gi_wp2_with (first | (gi_at_make; refine wpListIn_make_own _ rfl _ _ 34 rfl (w.heap.size + 1) 9 i0 (.string ⟨#[]⟩) 1 Tryz.underlying34 hi iz0 iz1 .i64 .i64 (n : Int) n rfl rfl rfl (by rw [iz2]; omega) (by unfold maxLen; omega) (by simp) ?_; intro w1 hown1 hg1; simp only [World.size_alloc] at hown1) | (gi_at_call 77; refine (bu_in Fence.wide _ trivial rfl _ _ _ _).mono ?_; rintro e w' ⟨rfl, rfl⟩))
  have hz1 := hg1.size
  simp only [World.size_alloc] at hz1
  have b1 : Below w.heap.size w w1 := ((Below.refl w.heap.size w).alloc (Nat.le_refl _) (.cells #[.func (.func 54) #[] #[.pointer (some ⟨cb, 0, none⟩)]] 93)).grown hg1 (by simp) (fun k e => by cases e)
  have p1 := qF.grown' hg1 (by simp)
  have p2 := Row.new w1 34 [.slice (some ⟨w.heap.size + 1, 0, none⟩) 0 n]
  have p0 := Row.new (w1.alloc (.cells #[.slice (some ⟨w.heap.size + 1, 0, none⟩) 0 n] 34)) 22 [.slice (some ⟨b, 0, none⟩) n cap]
  simp only [World.size_alloc] at p0
  have q1 := (p1.alloc (.cells #[.slice (some ⟨w.heap.size + 1, 0, none⟩) 0 n] 34)).alloc (.cells #[.slice (some ⟨b, 0, none⟩) n cap] 22)
  have q2 := p2.alloc (.cells #[.slice (some ⟨b, 0, none⟩) n cap] 22)
  have q0 := p0
  have OV := (hown1.alloc (.cells #[.slice (some ⟨w.heap.size + 1, 0, none⟩) 0 n] 34)).alloc (.cells #[.slice (some ⟨b, 0, none⟩) n cap] 22)
  have bV : Below w.heap.size w ((w1.alloc (.cells #[.slice (some ⟨w.heap.size + 1, 0, none⟩) 0 n] 34)).alloc (.cells #[.slice (some ⟨b, 0, none⟩) n cap] 22)) := (b1.alloc b1.size _).alloc (by simp; omega) _
  have sV : ((w1.alloc (.cells #[.slice (some ⟨w.heap.size + 1, 0, none⟩) 0 n] 34)).alloc (.cells #[.slice (some ⟨b, 0, none⟩) n cap] 22)).heap.size = w1.heap.size + 1 + 1 := by simp
  obtain ⟨V, hV⟩ : ∃ V, V = (w1.alloc (.cells #[.slice (some ⟨w.heap.size + 1, 0, none⟩) 0 n] 34)).alloc (.cells #[.slice (some ⟨b, 0, none⟩) n cap] 22) := ⟨_, rfl⟩
  rw [← hV] at q0 q1 q2 OV bV sV ⊢
  clear hV p0 p1 p2 b1 hown1 hg1 qF
  obtain ⟨PB, hPB⟩ : ∃ y, w1.heap.size = y := ⟨_, rfl⟩
  rw [hPB] at q0 q2 sV hz1 ⊢
  clear hPB
  have cB := q0.cell 0
  simp only [List.getElem?_cons_zero] at cB
  have hsl : ∀ g, g = b ∨ g = PB + 1 → g < V.heap.size := fun g hg => by rcases hg with rfl | rfl <;> omega
  have hcV : ∀ j, j < n → V.cell? ⟨b, j, none⟩ = some (.int .u8 (ug zs j)) := fun j hj => (bV.cell (p := ⟨b, j, none⟩) hbl).trans (hC.out j (by rw [← hN.out]; exact hj))
  have HSL := hid hsl
  have HNOT := hid hN.out
  refine wpIn_rangeFunc_ownH rfl hm (gf := 101) (lb := #[.pointer (some ⟨PB + 1, 0, none⟩)]) rfl trivial (enters_of Tryz.func101 (by kernel_rfl) rfl)
    (bu_stops Fence.wide 7 trivial rfl (by omega) (PB + 1) b n cap zs hN.out hle V (by omega) (by omega) cB hcV) KeepB.trans (keepB_b HSL.out) (Below.refl _ _) (fun _ => rfl)
    (fun pre W => (∃ v, (Row W w.heap.size 93 [.func (.func 54) #[] #[.pointer (some ⟨cb, 0, none⟩)]] ∧ Row W PB 34 [v] ∧ Row W (PB + 1) 22 [.slice (some ⟨b, 0, none⟩) n cap]) ∧ W.ownsRow (w.heap.size + 1) 9 1 v pre.length ((txL zs wd pre).map Value.string)) ∧ (Below w.heap.size w W ∧ V.heap.size ≤ W.heap.size))
    (fun _ _ _ => False)
    (OwnFrom.and (Own.from (fun s A B row hs hg hr => by obtain ⟨v, ⟨h1, h2, h0⟩, h3⟩ := hs; exact ⟨v, ⟨row_kept h1 hg hr, row_kept h2 hg hr, row_kept h0 hg hr⟩, owns_kept h3 hg hr⟩) _) (OwnFrom.and (ownFrom_below (Nat.le_refl _) (by omega)) (fun s A B row hs hg hr => Nat.le_trans hs hg.4)))
    (fun _ _ _ _ _ hs _ _ => hs)
    ⟨⟨_, ⟨q1, q2, q0⟩, OV⟩, bV, Nat.le_refl _⟩
    (fun x a' W => a' = { tmps := #[.slice (some ⟨b, 0, none⟩) n cap, .func (.func 54) #[] #[.pointer (some ⟨cb, 0, none⟩)], undef, .pointer (some ⟨w.heap.size, 0, none⟩), .string ⟨#[]⟩, .pointer (some ⟨PB, 0, none⟩), .int .i64 ((n - 1 - x.1 : Nat) : Int), .int .u8 (ug zs (n - 1 - x.1)), .slice (some ⟨b, 0, none⟩) n cap, .int .i64 (n : Int), .slice (some ⟨w.heap.size + 1, 0, none⟩) 0 n, .slice (some ⟨b, 0, none⟩) n cap, .func (.func 101) #[] #[.pointer (some ⟨PB + 1, 0, none⟩)], .int .i64 ((n - 1 - x.1 : Nat) : Int), .int .u8 (ug zs (n - 1 - x.1)), undef, undef, undef, undef, undef, undef, undef, undef, undef, undef], defers := [] })
    (fun x a' => Own.from (fun s A B row hs hg hr => hs) _) ?assign ?body ?done ?stop
  case assign =>
    rintro l pre x W K ⟨⟨v, ⟨h1, h2, h0⟩, h3⟩, h4, h6⟩ hK
    have hAA := hK _ W ((KeepsOthers.refl W).from _) (KeepB.refl _ W) ⟨⟨v, ⟨h1, h2, h0⟩, h3⟩, h4, h6⟩ rfl
    clear hK
    simp only [buA]
    gi_wp2
    exact hAA
  case body =>
    rintro l pre x a' W _ _ ⟨⟨v, ⟨h1, h2, h0⟩, h3⟩, h4, h6⟩ rfl hlen
    have hx := x.2
    have hdn : n - 1 - x.1 < n := by omega
    have HSN := hid (show (txL zs wd (pre ++ [x])).map Value.string = (txL zs wd pre).map Value.string ++ [.string ⟨(txP zs wd (n - 1 - x.1)).toArray⟩] by simp [txL])
    have HFX := hid (fun W h => HF.out (n - 1 - x.1) W hdn h)
    have HDX := hid (fun W h => HD.out (n - 1 - x.1) W hdn h)
    obtain ⟨d, hd⟩ : ∃ y, n - 1 - x.1 = y := ⟨_, rfl⟩
    rw [hd] at HSN HFX HDX ⊢
    obtain ⟨T, hT⟩ : ∃ y, (⟨(txP zs wd d).toArray⟩ : ByteArray) = y := ⟨_, rfl⟩
    rw [hT] at HSN HDX
    obtain ⟨p, hp⟩ : ∃ y, ug zs d = y := ⟨_, rfl⟩
    rw [hp] at HDX ⊢
    obtain ⟨q, hq⟩ : ∃ y, ((wd d : Nat) : Int) = y := ⟨_, rfl⟩
    rw [hq] at HFX HDX
    obtain ⟨dI, hdI⟩ : ∃ y, ((d : Nat) : Int) = y := ⟨_, rfl⟩
    rw [hdI] at HFX ⊢
    have H4 := hid h4
    have lw := h4.size
    clear hd hT hp hq hdI h4
    gi_wp2
    refine region_held (S := fun W' : World => Row W' w.heap.size 93 [.func (.func 54) #[] #[.pointer (some ⟨cb, 0, none⟩)]]) (by kernel_rfl) (by kernel_rfl) (fun hnd => ?_)
    obtain ⟨W0, hW0⟩ : ∃ Xq, Xq = World.drew W := ⟨_, rfl⟩
    have bR : Below W.heap.size W W0 := by rw [hW0]; exact (Below.refl _ _).drew
    have kR : KeepsOthers W W0 := by rw [hW0]; exact KeepsOthers.drew _
    replace h1 := h1.below bR h1.lt
    replace h2 := h2.below bR h2.lt
    replace h0 := h0.below bR h0.lt
    replace h3 := owns_belowP h3 bR
    rw [← hW0]
    clear hW0
    have hS0 : (fun W' : World => Row W' w.heap.size 93 [.func (.func 54) #[] #[.pointer (some ⟨cb, 0, none⟩)]]) W0 := h1
    refine anyS_takeD (some 16) (i := 1) (v := ?_) hnd rfl rfl (by kernel_rfl) (by kernel_rfl) (by kernel_rfl) (fun _ _ _ h => h) ⟨by rfl, ?_, fun _ => rfl⟩ hS0 ?_
    rotate_left
    · intro w' hw'; go_simp; try with_reducible rfl
    try simp only [Act.put, List.setIfInBounds_toArray, List.set_cons_zero, List.set_cons_succ]
    refine anyS_takeD (some 17) (i := 2) (v := ?_) hnd rfl rfl (by kernel_rfl) (by kernel_rfl) (by kernel_rfl) (fun _ _ _ h => h) ⟨by rfl, ?_, fun _ => rfl⟩ hS0 ?_
    rotate_left
    · intro w' hw'; have e0 := Row.cell hw' 0; simp only [List.getElem?_cons_zero] at e0; clear hw'; go_simp; try with_reducible rfl
    try simp only [Act.put, List.setIfInBounds_toArray, List.set_cons_zero, List.set_cons_succ]
    refine anyS_takeD (some 18) (i := 3) (v := ?_) hnd rfl rfl (by kernel_rfl) (by kernel_rfl) (by kernel_rfl) (fun _ _ _ h => h) ⟨by rfl, ?_, fun _ => rfl⟩ hS0 ?_
    rotate_left
    · intro w' hw'; go_simp; try with_reducible rfl
    try simp only [Act.put, List.setIfInBounds_toArray, List.set_cons_zero, List.set_cons_succ]
    refine anyS_two (i := 0) (k := 4) (by kernel_rfl) rfl rfl (by rfl) (by rfl) (fun K hKK => ?_) (fun K hKK => ?_)
    · have kq0 := h2.cell 0
      simp only [List.getElem?_cons_zero] at kq0
      go_simp
      refine hKK _ _ hS0 ?_
      try simp only [Act.put, List.setIfInBounds_toArray, List.set_cons_zero, List.set_cons_succ]
      clear hKK K kq0
      refine anyS_call (i := 4) (by kernel_rfl) rfl (by rfl) (fun K hKK => ?_)
      go_simp
      refine ⟨trivial, (CallsIn.inRound l (callsIn_wide.2 (HFX.out W0 (H4.out.trans (bR.mono lw))))).mono ?_⟩
      rintro e v2 ⟨rfl, hB2⟩
      dsimp only
      replace h1 := h1.below hB2 h1.lt
      replace h2 := h2.below hB2 h2.lt
      replace h0 := h0.below hB2 h0.lt
      replace h3 := owns_belowP h3 hB2
      replace kR := kR.trans (keepsOthers_of hB2)
      replace bR := bR.trans (hB2.mono bR.size)
      have hS2 : (fun W' : World => Row W' w.heap.size 93 [.func (.func 54) #[] #[.pointer (some ⟨cb, 0, none⟩)]]) v2 := h1
      clear hB2
      refine hKK _ _ hS2 ?_
      try simp only [Act.put, List.setIfInBounds_toArray, List.set_cons_zero, List.set_cons_succ]
      clear hKK K
      refine anyS_call (i := 5) (by kernel_rfl) rfl (by rfl) (fun K hKK => ?_)
      go_simp
      refine ⟨trivial, (CallsIn.inRound l (callsIn_wide.2 (HDX.out v2 (H4.out.trans (bR.mono lw))))).mono ?_⟩
      rintro e v3 ⟨rfl, hB3⟩
      dsimp only
      replace h1 := h1.below hB3 h1.lt
      replace h2 := h2.below hB3 h2.lt
      replace h0 := h0.below hB3 h0.lt
      replace h3 := owns_belowP h3 hB3
      replace kR := kR.trans (keepsOthers_of hB3)
      replace bR := bR.trans (hB3.mono bR.size)
      have hS3 : (fun W' : World => Row W' w.heap.size 93 [.func (.func 54) #[] #[.pointer (some ⟨cb, 0, none⟩)]]) v3 := h1
      clear hB3
      refine hKK _ _ hS3 ?_
      try simp only [Act.put, List.setIfInBounds_toArray, List.set_cons_zero, List.set_cons_succ]
      clear hKK K
      refine anyS_call (i := 6) (by kernel_rfl) rfl (by rfl) (fun K hKK => ?_)
      have rn := Row.new v3 9 [.string T]
      go_simp
      replace h1 := h1.alloc (.cells #[.string T] 9)
      replace h2 := h2.alloc (.cells #[.string T] 9)
      replace h0 := h0.alloc (.cells #[.string T] 9)
      replace h3 := h3.alloc (.cells #[.string T] 9)
      replace kR := kR.trans (KeepsOthers.alloc _ (.cells #[.string T] 9))
      have lr : W.heap.size ≤ v3.heap.size := bR.size
      replace bR := bR.alloc bR.size (.cells #[.string T] 9)
      have hS4 : (fun W' : World => Row W' w.heap.size 93 [.func (.func 54) #[] #[.pointer (some ⟨cb, 0, none⟩)]]) (v3.alloc (.cells #[.string T] 9)) := h1
      refine hKK _ _ hS4 ?_
      try simp only [Act.put, List.setIfInBounds_toArray, List.set_cons_zero, List.set_cons_succ]
      obtain ⟨G, hG⟩ : ∃ y, v3.heap.size = y := ⟨_, rfl⟩
      obtain ⟨X4, hX4⟩ : ∃ y, v3.alloc (.cells #[.string T] 9) = y := ⟨_, rfl⟩
      rw [hX4] at h1 h2 h0 h3 kR bR hS4 rn ⊢
      rw [hG] at rn lr ⊢
      clear hX4 hG hKK K
      refine anyS_call (i := 7) (by kernel_rfl) rfl (by rfl) (fun K hKK => ?_)
      have nc := rn.cell 0
      simp only [List.getElem?_cons_zero] at nc
      refine opIn_append_own X4 _ _ 34 rfl (w.heap.size + 1) 9 i0 (.string ⟨#[]⟩) 1 16 Tryz.underlying34 hi iz0 iz1 iz2 rfl (by decide) v _ _ rfl h3 ⟨G, 0, none⟩ 1 1 [.string T] rfl rfl (by intro j u hj; match j, hj with | 0, hj => simp at hj; subst hj; simp [Addr.add, nc]) (by intro u hu; simp at hu; subst hu; rfl) (by unfold maxLen; omega) (by omega) (by have := bR.size; omega) ?_
      intro v' w7 hown' hgrow
      obtain ⟨sa, sl, sc, rfl⟩ : ∃ a l c, v' = Value.slice a l c := (by rcases hown'.2 with ⟨h, _⟩ | ⟨g', cap', cur, h, _⟩; exact ⟨_, _, _, h⟩; exact ⟨_, _, _, h⟩)
      have k1 := h1.grown' hgrow (owns_lt h3 (by omega))
      have k2 := h2.grown' hgrow (owns_ne h3 h2 (by decide))
      have k0 := h0.grown' hgrow (owns_ne h3 h0 (by decide))
      have hz7 := hgrow.size
      have ko : KeepsOthers X4 w7 := KeepsOthers.of_grownBy hgrow (fun j o hj ho => by
        rcases h3.2 with ⟨rfl, _⟩ | ⟨g', cap', cur, rfl, q2, q3, _⟩
        · cases hj
        · have : g' = j := Option.some.inj hj
          subst this
          rw [q3] at ho
          cases ho
          rfl)
      have kb := hid (show KeepB (fun g => g = b ∨ g = PB + 1) W (w7.setCell ⟨PB, 0, none⟩ (.slice sa sl sc)) from fun g hg => by
        have hgV := HSL.out g hg
        have e1 := bR.block g (Nat.lt_of_lt_of_le hgV h6)
        have e3 := hgrow.block g (Nat.lt_of_lt_of_le (Nat.lt_of_lt_of_le hgV h6) bR.size) (by rcases hg with rfl | rfl; exact owns_lt h3 (by omega); exact owns_ne h3 h0 (by decide))
        have e4 := Below.heap_setCell w7 ⟨PB, 0, none⟩ (.slice sa sl sc) g (by rcases hg with rfl | rfl <;> simp <;> omega)
        rw [e4, e3, e1])
      have bel := hid (show Below w.heap.size w (w7.setCell ⟨PB, 0, none⟩ (.slice sa sl sc)) from ((H4.out.trans (bR.mono lw)).grown hgrow (by have := bR.size; omega) (fun k e => by have := owns_lt h3 (g := k); by_cases hk : w.heap.size ≤ k; exact hk; exact absurd e.symm (this (by omega)))).setCell (p := ⟨PB, 0, none⟩) (by show _ ≤ PB; omega) _)
      have kf := hid (kR.trans (ko.trans (KeepsOthers.setCell _ ⟨PB, 0, none⟩ (.slice sa sl sc))))
      have ST := hid (show Row (w7.setCell ⟨PB, 0, none⟩ (.slice sa sl sc)) w.heap.size 93 [.func (.func 54) #[] #[.pointer (some ⟨cb, 0, none⟩)]] ∧ Row (w7.setCell ⟨PB, 0, none⟩ (.slice sa sl sc)) PB 34 [.slice sa sl sc] ∧ Row (w7.setCell ⟨PB, 0, none⟩ (.slice sa sl sc)) (PB + 1) 22 [.slice (some ⟨b, 0, none⟩) n cap] from ⟨k1.other (by show PB ≠ w.heap.size; omega) _, k2.set 0 (.slice sa sl sc), k0.other (by show PB ≠ PB + 1; omega) _⟩)
      have OW := hid (show (w7.setCell ⟨PB, 0, none⟩ (.slice sa sl sc)).ownsRow (w.heap.size + 1) 9 1 (.slice sa sl sc) (pre.length + 1) (((txL zs wd pre).map Value.string) ++ [.string T]) from owns_other hown' k2 (by decide) _)
      have zW : W.heap.size ≤ (w7.setCell ⟨PB, 0, none⟩ (.slice sa sl sc)).heap.size := by have := bR.size; simp; omega
      have k1' := k1
      have cL7 := k2.cell 0
      have fL7 := k2.frozen 0
      simp only [List.getElem?_cons_zero] at cL7
      have hS7 : (fun W' : World => Row W' w.heap.size 93 [.func (.func 54) #[] #[.pointer (some ⟨cb, 0, none⟩)]]) w7 := k1
      refine hKK _ _ hS7 ?_
      try simp only [Act.put, List.setIfInBounds_toArray, List.set_cons_zero, List.set_cons_succ]
      clear hKK K hown' hgrow h1 h2 h0 h3 rn bR kR ko hS4
      refine anyS_oneD none (i := 8) (w' := w7.setCell ⟨PB, 0, none⟩ (.slice sa sl sc)) hnd (by kernel_rfl) rfl rfl (by rfl) rfl ?_ ?_ (anyS_done (by kernel_rfl) ?_ _)
      · go_simp
      · exact ST.out.1
      try simp only [Act.put, List.setIfInBounds_toArray, List.set_cons_zero, List.set_cons_succ]
      gi_wp2
      exact ⟨kf.out.from _, kb.out, ⟨.slice sa sl sc, ST.out, by rw [HSN.out, List.length_append]; exact OW.out⟩, bel.out, by omega⟩
    · go_simp
      refine ⟨trivial, (CallsIn.inRound l (callsIn_wide.2 (HFX.out W0 (H4.out.trans (bR.mono lw))))).mono ?_⟩
      rintro e v5 ⟨rfl, hB5⟩
      dsimp only
      replace h1 := h1.below hB5 h1.lt
      replace h2 := h2.below hB5 h2.lt
      replace h0 := h0.below hB5 h0.lt
      replace h3 := owns_belowP h3 hB5
      replace kR := kR.trans (keepsOthers_of hB5)
      replace bR := bR.trans (hB5.mono bR.size)
      have hS5 : (fun W' : World => Row W' w.heap.size 93 [.func (.func 54) #[] #[.pointer (some ⟨cb, 0, none⟩)]]) v5 := h1
      clear hB5
      refine hKK _ _ hS5 ?_
      try simp only [Act.put, List.setIfInBounds_toArray, List.set_cons_zero, List.set_cons_succ]
      clear hKK K
      refine anyS_two (i := 0) (k := 5) (by kernel_rfl) rfl rfl (by rfl) (by rfl) (fun K hKK => ?_) (fun K hKK => ?_)
      · have kq0 := h2.cell 0
        simp only [List.getElem?_cons_zero] at kq0
        go_simp
        refine hKK _ _ hS5 ?_
        try simp only [Act.put, List.setIfInBounds_toArray, List.set_cons_zero, List.set_cons_succ]
        clear hKK K kq0
        refine anyS_call (i := 5) (by kernel_rfl) rfl (by rfl) (fun K hKK => ?_)
        go_simp
        refine ⟨trivial, (CallsIn.inRound l (callsIn_wide.2 (HDX.out v5 (H4.out.trans (bR.mono lw))))).mono ?_⟩
        rintro e v7 ⟨rfl, hB7⟩
        dsimp only
        replace h1 := h1.below hB7 h1.lt
        replace h2 := h2.below hB7 h2.lt
        replace h0 := h0.below hB7 h0.lt
        replace h3 := owns_belowP h3 hB7
        replace kR := kR.trans (keepsOthers_of hB7)
        replace bR := bR.trans (hB7.mono bR.size)
        have hS7 : (fun W' : World => Row W' w.heap.size 93 [.func (.func 54) #[] #[.pointer (some ⟨cb, 0, none⟩)]]) v7 := h1
        clear hB7
        refine hKK _ _ hS7 ?_
        try simp only [Act.put, List.setIfInBounds_toArray, List.set_cons_zero, List.set_cons_succ]
        clear hKK K
        refine anyS_call (i := 6) (by kernel_rfl) rfl (by rfl) (fun K hKK => ?_)
        have rn := Row.new v7 9 [.string T]
        go_simp
        replace h1 := h1.alloc (.cells #[.string T] 9)
        replace h2 := h2.alloc (.cells #[.string T] 9)
        replace h0 := h0.alloc (.cells #[.string T] 9)
        replace h3 := h3.alloc (.cells #[.string T] 9)
        replace kR := kR.trans (KeepsOthers.alloc _ (.cells #[.string T] 9))
        have lr : W.heap.size ≤ v7.heap.size := bR.size
        replace bR := bR.alloc bR.size (.cells #[.string T] 9)
        have hS8 : (fun W' : World => Row W' w.heap.size 93 [.func (.func 54) #[] #[.pointer (some ⟨cb, 0, none⟩)]]) (v7.alloc (.cells #[.string T] 9)) := h1
        refine hKK _ _ hS8 ?_
        try simp only [Act.put, List.setIfInBounds_toArray, List.set_cons_zero, List.set_cons_succ]
        obtain ⟨G, hG⟩ : ∃ y, v7.heap.size = y := ⟨_, rfl⟩
        obtain ⟨X8, hX8⟩ : ∃ y, v7.alloc (.cells #[.string T] 9) = y := ⟨_, rfl⟩
        rw [hX8] at h1 h2 h0 h3 kR bR hS8 rn ⊢
        rw [hG] at rn lr ⊢
        clear hX8 hG hKK K
        refine anyS_call (i := 7) (by kernel_rfl) rfl (by rfl) (fun K hKK => ?_)
        have nc := rn.cell 0
        simp only [List.getElem?_cons_zero] at nc
        refine opIn_append_own X8 _ _ 34 rfl (w.heap.size + 1) 9 i0 (.string ⟨#[]⟩) 1 16 Tryz.underlying34 hi iz0 iz1 iz2 rfl (by decide) v _ _ rfl h3 ⟨G, 0, none⟩ 1 1 [.string T] rfl rfl (by intro j u hj; match j, hj with | 0, hj => simp at hj; subst hj; simp [Addr.add, nc]) (by intro u hu; simp at hu; subst hu; rfl) (by unfold maxLen; omega) (by omega) (by have := bR.size; omega) ?_
        intro v' w7 hown' hgrow
        obtain ⟨sa, sl, sc, rfl⟩ : ∃ a l c, v' = Value.slice a l c := (by rcases hown'.2 with ⟨h, _⟩ | ⟨g', cap', cur, h, _⟩; exact ⟨_, _, _, h⟩; exact ⟨_, _, _, h⟩)
        have k1 := h1.grown' hgrow (owns_lt h3 (by omega))
        have k2 := h2.grown' hgrow (owns_ne h3 h2 (by decide))
        have k0 := h0.grown' hgrow (owns_ne h3 h0 (by decide))
        have hz7 := hgrow.size
        have ko : KeepsOthers X8 w7 := KeepsOthers.of_grownBy hgrow (fun j o hj ho => by
          rcases h3.2 with ⟨rfl, _⟩ | ⟨g', cap', cur, rfl, q2, q3, _⟩
          · cases hj
          · have : g' = j := Option.some.inj hj
            subst this
            rw [q3] at ho
            cases ho
            rfl)
        have kb := hid (show KeepB (fun g => g = b ∨ g = PB + 1) W (w7.setCell ⟨PB, 0, none⟩ (.slice sa sl sc)) from fun g hg => by
          have hgV := HSL.out g hg
          have e1 := bR.block g (Nat.lt_of_lt_of_le hgV h6)
          have e3 := hgrow.block g (Nat.lt_of_lt_of_le (Nat.lt_of_lt_of_le hgV h6) bR.size) (by rcases hg with rfl | rfl; exact owns_lt h3 (by omega); exact owns_ne h3 h0 (by decide))
          have e4 := Below.heap_setCell w7 ⟨PB, 0, none⟩ (.slice sa sl sc) g (by rcases hg with rfl | rfl <;> simp <;> omega)
          rw [e4, e3, e1])
        have bel := hid (show Below w.heap.size w (w7.setCell ⟨PB, 0, none⟩ (.slice sa sl sc)) from ((H4.out.trans (bR.mono lw)).grown hgrow (by have := bR.size; omega) (fun k e => by have := owns_lt h3 (g := k); by_cases hk : w.heap.size ≤ k; exact hk; exact absurd e.symm (this (by omega)))).setCell (p := ⟨PB, 0, none⟩) (by show _ ≤ PB; omega) _)
        have kf := hid (kR.trans (ko.trans (KeepsOthers.setCell _ ⟨PB, 0, none⟩ (.slice sa sl sc))))
        have ST := hid (show Row (w7.setCell ⟨PB, 0, none⟩ (.slice sa sl sc)) w.heap.size 93 [.func (.func 54) #[] #[.pointer (some ⟨cb, 0, none⟩)]] ∧ Row (w7.setCell ⟨PB, 0, none⟩ (.slice sa sl sc)) PB 34 [.slice sa sl sc] ∧ Row (w7.setCell ⟨PB, 0, none⟩ (.slice sa sl sc)) (PB + 1) 22 [.slice (some ⟨b, 0, none⟩) n cap] from ⟨k1.other (by show PB ≠ w.heap.size; omega) _, k2.set 0 (.slice sa sl sc), k0.other (by show PB ≠ PB + 1; omega) _⟩)
        have OW := hid (show (w7.setCell ⟨PB, 0, none⟩ (.slice sa sl sc)).ownsRow (w.heap.size + 1) 9 1 (.slice sa sl sc) (pre.length + 1) (((txL zs wd pre).map Value.string) ++ [.string T]) from owns_other hown' k2 (by decide) _)
        have zW : W.heap.size ≤ (w7.setCell ⟨PB, 0, none⟩ (.slice sa sl sc)).heap.size := by have := bR.size; simp; omega
        have k1' := k1
        have cL7 := k2.cell 0
        have fL7 := k2.frozen 0
        simp only [List.getElem?_cons_zero] at cL7
        have hS7 : (fun W' : World => Row W' w.heap.size 93 [.func (.func 54) #[] #[.pointer (some ⟨cb, 0, none⟩)]]) w7 := k1
        refine hKK _ _ hS7 ?_
        try simp only [Act.put, List.setIfInBounds_toArray, List.set_cons_zero, List.set_cons_succ]
        clear hKK K hown' hgrow h1 h2 h0 h3 rn bR kR ko hS8
        refine anyS_oneD none (i := 8) (w' := w7.setCell ⟨PB, 0, none⟩ (.slice sa sl sc)) hnd (by kernel_rfl) rfl rfl (by rfl) rfl ?_ ?_ (anyS_done (by kernel_rfl) ?_ _)
        · go_simp
        · exact ST.out.1
        try simp only [Act.put, List.setIfInBounds_toArray, List.set_cons_zero, List.set_cons_succ]
        gi_wp2
        exact ⟨kf.out.from _, kb.out, ⟨.slice sa sl sc, ST.out, by rw [HSN.out, List.length_append]; exact OW.out⟩, bel.out, by omega⟩
      · go_simp
        refine ⟨trivial, (CallsIn.inRound l (callsIn_wide.2 (HDX.out v5 (H4.out.trans (bR.mono lw))))).mono ?_⟩
        rintro e v9 ⟨rfl, hB9⟩
        dsimp only
        replace h1 := h1.below hB9 h1.lt
        replace h2 := h2.below hB9 h2.lt
        replace h0 := h0.below hB9 h0.lt
        replace h3 := owns_belowP h3 hB9
        replace kR := kR.trans (keepsOthers_of hB9)
        replace bR := bR.trans (hB9.mono bR.size)
        have hS9 : (fun W' : World => Row W' w.heap.size 93 [.func (.func 54) #[] #[.pointer (some ⟨cb, 0, none⟩)]]) v9 := h1
        clear hB9
        refine hKK _ _ hS9 ?_
        try simp only [Act.put, List.setIfInBounds_toArray, List.set_cons_zero, List.set_cons_succ]
        clear hKK K
        refine anyS_two (i := 0) (k := 6) (by kernel_rfl) rfl rfl (by rfl) (by rfl) (fun K hKK => ?_) (fun K hKK => ?_)
        · have kq0 := h2.cell 0
          simp only [List.getElem?_cons_zero] at kq0
          go_simp
          refine hKK _ _ hS9 ?_
          try simp only [Act.put, List.setIfInBounds_toArray, List.set_cons_zero, List.set_cons_succ]
          clear hKK K kq0
          refine anyS_call (i := 6) (by kernel_rfl) rfl (by rfl) (fun K hKK => ?_)
          have rn := Row.new v9 9 [.string T]
          go_simp
          replace h1 := h1.alloc (.cells #[.string T] 9)
          replace h2 := h2.alloc (.cells #[.string T] 9)
          replace h0 := h0.alloc (.cells #[.string T] 9)
          replace h3 := h3.alloc (.cells #[.string T] 9)
          replace kR := kR.trans (KeepsOthers.alloc _ (.cells #[.string T] 9))
          have lr : W.heap.size ≤ v9.heap.size := bR.size
          replace bR := bR.alloc bR.size (.cells #[.string T] 9)
          have hS11 : (fun W' : World => Row W' w.heap.size 93 [.func (.func 54) #[] #[.pointer (some ⟨cb, 0, none⟩)]]) (v9.alloc (.cells #[.string T] 9)) := h1
          refine hKK _ _ hS11 ?_
          try simp only [Act.put, List.setIfInBounds_toArray, List.set_cons_zero, List.set_cons_succ]
          obtain ⟨G, hG⟩ : ∃ y, v9.heap.size = y := ⟨_, rfl⟩
          obtain ⟨X11, hX11⟩ : ∃ y, v9.alloc (.cells #[.string T] 9) = y := ⟨_, rfl⟩
          rw [hX11] at h1 h2 h0 h3 kR bR hS11 rn ⊢
          rw [hG] at rn lr ⊢
          clear hX11 hG hKK K
          refine anyS_call (i := 7) (by kernel_rfl) rfl (by rfl) (fun K hKK => ?_)
          have nc := rn.cell 0
          simp only [List.getElem?_cons_zero] at nc
          refine opIn_append_own X11 _ _ 34 rfl (w.heap.size + 1) 9 i0 (.string ⟨#[]⟩) 1 16 Tryz.underlying34 hi iz0 iz1 iz2 rfl (by decide) v _ _ rfl h3 ⟨G, 0, none⟩ 1 1 [.string T] rfl rfl (by intro j u hj; match j, hj with | 0, hj => simp at hj; subst hj; simp [Addr.add, nc]) (by intro u hu; simp at hu; subst hu; rfl) (by unfold maxLen; omega) (by omega) (by have := bR.size; omega) ?_
          intro v' w7 hown' hgrow
          obtain ⟨sa, sl, sc, rfl⟩ : ∃ a l c, v' = Value.slice a l c := (by rcases hown'.2 with ⟨h, _⟩ | ⟨g', cap', cur, h, _⟩; exact ⟨_, _, _, h⟩; exact ⟨_, _, _, h⟩)
          have k1 := h1.grown' hgrow (owns_lt h3 (by omega))
          have k2 := h2.grown' hgrow (owns_ne h3 h2 (by decide))
          have k0 := h0.grown' hgrow (owns_ne h3 h0 (by decide))
          have hz7 := hgrow.size
          have ko : KeepsOthers X11 w7 := KeepsOthers.of_grownBy hgrow (fun j o hj ho => by
            rcases h3.2 with ⟨rfl, _⟩ | ⟨g', cap', cur, rfl, q2, q3, _⟩
            · cases hj
            · have : g' = j := Option.some.inj hj
              subst this
              rw [q3] at ho
              cases ho
              rfl)
          have kb := hid (show KeepB (fun g => g = b ∨ g = PB + 1) W (w7.setCell ⟨PB, 0, none⟩ (.slice sa sl sc)) from fun g hg => by
            have hgV := HSL.out g hg
            have e1 := bR.block g (Nat.lt_of_lt_of_le hgV h6)
            have e3 := hgrow.block g (Nat.lt_of_lt_of_le (Nat.lt_of_lt_of_le hgV h6) bR.size) (by rcases hg with rfl | rfl; exact owns_lt h3 (by omega); exact owns_ne h3 h0 (by decide))
            have e4 := Below.heap_setCell w7 ⟨PB, 0, none⟩ (.slice sa sl sc) g (by rcases hg with rfl | rfl <;> simp <;> omega)
            rw [e4, e3, e1])
          have bel := hid (show Below w.heap.size w (w7.setCell ⟨PB, 0, none⟩ (.slice sa sl sc)) from ((H4.out.trans (bR.mono lw)).grown hgrow (by have := bR.size; omega) (fun k e => by have := owns_lt h3 (g := k); by_cases hk : w.heap.size ≤ k; exact hk; exact absurd e.symm (this (by omega)))).setCell (p := ⟨PB, 0, none⟩) (by show _ ≤ PB; omega) _)
          have kf := hid (kR.trans (ko.trans (KeepsOthers.setCell _ ⟨PB, 0, none⟩ (.slice sa sl sc))))
          have ST := hid (show Row (w7.setCell ⟨PB, 0, none⟩ (.slice sa sl sc)) w.heap.size 93 [.func (.func 54) #[] #[.pointer (some ⟨cb, 0, none⟩)]] ∧ Row (w7.setCell ⟨PB, 0, none⟩ (.slice sa sl sc)) PB 34 [.slice sa sl sc] ∧ Row (w7.setCell ⟨PB, 0, none⟩ (.slice sa sl sc)) (PB + 1) 22 [.slice (some ⟨b, 0, none⟩) n cap] from ⟨k1.other (by show PB ≠ w.heap.size; omega) _, k2.set 0 (.slice sa sl sc), k0.other (by show PB ≠ PB + 1; omega) _⟩)
          have OW := hid (show (w7.setCell ⟨PB, 0, none⟩ (.slice sa sl sc)).ownsRow (w.heap.size + 1) 9 1 (.slice sa sl sc) (pre.length + 1) (((txL zs wd pre).map Value.string) ++ [.string T]) from owns_other hown' k2 (by decide) _)
          have zW : W.heap.size ≤ (w7.setCell ⟨PB, 0, none⟩ (.slice sa sl sc)).heap.size := by have := bR.size; simp; omega
          have k1' := k1
          have cL7 := k2.cell 0
          have fL7 := k2.frozen 0
          simp only [List.getElem?_cons_zero] at cL7
          have hS7 : (fun W' : World => Row W' w.heap.size 93 [.func (.func 54) #[] #[.pointer (some ⟨cb, 0, none⟩)]]) w7 := k1
          refine hKK _ _ hS7 ?_
          try simp only [Act.put, List.setIfInBounds_toArray, List.set_cons_zero, List.set_cons_succ]
          clear hKK K hown' hgrow h1 h2 h0 h3 rn bR kR ko hS11
          refine anyS_oneD none (i := 8) (w' := w7.setCell ⟨PB, 0, none⟩ (.slice sa sl sc)) hnd (by kernel_rfl) rfl rfl (by rfl) rfl ?_ ?_ (anyS_done (by kernel_rfl) ?_ _)
          · go_simp
          · exact ST.out.1
          try simp only [Act.put, List.setIfInBounds_toArray, List.set_cons_zero, List.set_cons_succ]
          gi_wp2
          exact ⟨kf.out.from _, kb.out, ⟨.slice sa sl sc, ST.out, by rw [HSN.out, List.length_append]; exact OW.out⟩, bel.out, by omega⟩
        · have rn := Row.new v9 9 [.string T]
          go_simp
          replace h1 := h1.alloc (.cells #[.string T] 9)
          replace h2 := h2.alloc (.cells #[.string T] 9)
          replace h0 := h0.alloc (.cells #[.string T] 9)
          replace h3 := h3.alloc (.cells #[.string T] 9)
          replace kR := kR.trans (KeepsOthers.alloc _ (.cells #[.string T] 9))
          have lr : W.heap.size ≤ v9.heap.size := bR.size
          replace bR := bR.alloc bR.size (.cells #[.string T] 9)
          have hS12 : (fun W' : World => Row W' w.heap.size 93 [.func (.func 54) #[] #[.pointer (some ⟨cb, 0, none⟩)]]) (v9.alloc (.cells #[.string T] 9)) := h1
          refine hKK _ _ hS12 ?_
          try simp only [Act.put, List.setIfInBounds_toArray, List.set_cons_zero, List.set_cons_succ]
          obtain ⟨G, hG⟩ : ∃ y, v9.heap.size = y := ⟨_, rfl⟩
          obtain ⟨X12, hX12⟩ : ∃ y, v9.alloc (.cells #[.string T] 9) = y := ⟨_, rfl⟩
          rw [hX12] at h1 h2 h0 h3 kR bR hS12 rn ⊢
          rw [hG] at rn lr ⊢
          clear hX12 hG hKK K
          refine anyS_call (i := 0) (by kernel_rfl) rfl (by rfl) (fun K hKK => ?_)
          have kq0 := h2.cell 0
          simp only [List.getElem?_cons_zero] at kq0
          go_simp
          refine hKK _ _ hS12 ?_
          try simp only [Act.put, List.setIfInBounds_toArray, List.set_cons_zero, List.set_cons_succ]
          clear hKK K kq0
          refine anyS_call (i := 7) (by kernel_rfl) rfl (by rfl) (fun K hKK => ?_)
          have nc := rn.cell 0
          simp only [List.getElem?_cons_zero] at nc
          refine opIn_append_own X12 _ _ 34 rfl (w.heap.size + 1) 9 i0 (.string ⟨#[]⟩) 1 16 Tryz.underlying34 hi iz0 iz1 iz2 rfl (by decide) v _ _ rfl h3 ⟨G, 0, none⟩ 1 1 [.string T] rfl rfl (by intro j u hj; match j, hj with | 0, hj => simp at hj; subst hj; simp [Addr.add, nc]) (by intro u hu; simp at hu; subst hu; rfl) (by unfold maxLen; omega) (by omega) (by have := bR.size; omega) ?_
          intro v' w7 hown' hgrow
          obtain ⟨sa, sl, sc, rfl⟩ : ∃ a l c, v' = Value.slice a l c := (by rcases hown'.2 with ⟨h, _⟩ | ⟨g', cap', cur, h, _⟩; exact ⟨_, _, _, h⟩; exact ⟨_, _, _, h⟩)
          have k1 := h1.grown' hgrow (owns_lt h3 (by omega))
          have k2 := h2.grown' hgrow (owns_ne h3 h2 (by decide))
          have k0 := h0.grown' hgrow (owns_ne h3 h0 (by decide))
          have hz7 := hgrow.size
          have ko : KeepsOthers X12 w7 := KeepsOthers.of_grownBy hgrow (fun j o hj ho => by
            rcases h3.2 with ⟨rfl, _⟩ | ⟨g', cap', cur, rfl, q2, q3, _⟩
            · cases hj
            · have : g' = j := Option.some.inj hj
              subst this
              rw [q3] at ho
              cases ho
              rfl)
          have kb := hid (show KeepB (fun g => g = b ∨ g = PB + 1) W (w7.setCell ⟨PB, 0, none⟩ (.slice sa sl sc)) from fun g hg => by
            have hgV := HSL.out g hg
            have e1 := bR.block g (Nat.lt_of_lt_of_le hgV h6)
            have e3 := hgrow.block g (Nat.lt_of_lt_of_le (Nat.lt_of_lt_of_le hgV h6) bR.size) (by rcases hg with rfl | rfl; exact owns_lt h3 (by omega); exact owns_ne h3 h0 (by decide))
            have e4 := Below.heap_setCell w7 ⟨PB, 0, none⟩ (.slice sa sl sc) g (by rcases hg with rfl | rfl <;> simp <;> omega)
            rw [e4, e3, e1])
          have bel := hid (show Below w.heap.size w (w7.setCell ⟨PB, 0, none⟩ (.slice sa sl sc)) from ((H4.out.trans (bR.mono lw)).grown hgrow (by have := bR.size; omega) (fun k e => by have := owns_lt h3 (g := k); by_cases hk : w.heap.size ≤ k; exact hk; exact absurd e.symm (this (by omega)))).setCell (p := ⟨PB, 0, none⟩) (by show _ ≤ PB; omega) _)
          have kf := hid (kR.trans (ko.trans (KeepsOthers.setCell _ ⟨PB, 0, none⟩ (.slice sa sl sc))))
          have ST := hid (show Row (w7.setCell ⟨PB, 0, none⟩ (.slice sa sl sc)) w.heap.size 93 [.func (.func 54) #[] #[.pointer (some ⟨cb, 0, none⟩)]] ∧ Row (w7.setCell ⟨PB, 0, none⟩ (.slice sa sl sc)) PB 34 [.slice sa sl sc] ∧ Row (w7.setCell ⟨PB, 0, none⟩ (.slice sa sl sc)) (PB + 1) 22 [.slice (some ⟨b, 0, none⟩) n cap] from ⟨k1.other (by show PB ≠ w.heap.size; omega) _, k2.set 0 (.slice sa sl sc), k0.other (by show PB ≠ PB + 1; omega) _⟩)
          have OW := hid (show (w7.setCell ⟨PB, 0, none⟩ (.slice sa sl sc)).ownsRow (w.heap.size + 1) 9 1 (.slice sa sl sc) (pre.length + 1) (((txL zs wd pre).map Value.string) ++ [.string T]) from owns_other hown' k2 (by decide) _)
          have zW : W.heap.size ≤ (w7.setCell ⟨PB, 0, none⟩ (.slice sa sl sc)).heap.size := by have := bR.size; simp; omega
          have k1' := k1
          have cL7 := k2.cell 0
          have fL7 := k2.frozen 0
          simp only [List.getElem?_cons_zero] at cL7
          have hS7 : (fun W' : World => Row W' w.heap.size 93 [.func (.func 54) #[] #[.pointer (some ⟨cb, 0, none⟩)]]) w7 := k1
          refine hKK _ _ hS7 ?_
          try simp only [Act.put, List.setIfInBounds_toArray, List.set_cons_zero, List.set_cons_succ]
          clear hKK K hown' hgrow h1 h2 h0 h3 rn bR kR ko hS12
          refine anyS_oneD none (i := 8) (w' := w7.setCell ⟨PB, 0, none⟩ (.slice sa sl sc)) hnd (by kernel_rfl) rfl rfl (by rfl) rfl ?_ ?_ (anyS_done (by kernel_rfl) ?_ _)
          · go_simp
          · exact ST.out.1
          try simp only [Act.put, List.setIfInBounds_toArray, List.set_cons_zero, List.set_cons_succ]
          gi_wp2
          exact ⟨kf.out.from _, kb.out, ⟨.slice sa sl sc, ST.out, by rw [HSN.out, List.length_append]; exact OW.out⟩, bel.out, by omega⟩
  case done =>
    rintro D ys W hD rfl ⟨⟨v, ⟨h1, h2, h0⟩, h3⟩, h4, h6⟩ hK
    have cL := h2.cell 0
    simp only [List.getElem?_cons_zero] at cL
    have hfl : (List.finRange n).length = n := by simp
    rw [hfl] at h3
    have htl : (txL zs wd (List.finRange n)).length = n := by simp [txL]
    have hTT := hid (show Lib.join ((txL zs wd (List.finRange n)).map (·.data.toList)) [58] = txT zs wd by unfold txT; rw [← hN.out])
    rcases h3.2 with h90 | ⟨g, gcap, cur, rfl, h92, h93, h94⟩
    · exact absurd h90.2 (by omega)
    have HJ := hid (Tryz.strings_Join g 0 gcap (txL zs wd (List.finRange n)) ⟨#[58]⟩ W (own_cells h3) (lt_of_block h93) (by rw [htl]; omega) (by rw [htl]; exact own_cap h3) (by rw [hTT.out]; have := HL.out; omega))
    rw [htl, hTT.out] at HJ
    have H4 := hid h4
    have lw := h4.size
    have HK := hid hK
    have hDw := hD
    clear h1 h2 h0 h3 h4 h92 h93 h94 hK
    gi_wp2_with (gi_at_call 78; refine (callsIn_wide.2 HJ.out).mono ?_; rintro e w9 ⟨rfl, hB9⟩)
    have hK9 := (hB9.block D (lt_of_block HK.out)).trans HK.out
    refine ⟨by simp, .inl ⟨_, _, rfl, run_takeDeferred hK9, ?_⟩⟩
    exact ⟨_, results_tmp rfl _ _ _, rfl, (H4.out.trans (hB9.mono lw)).trans (belowK_b (w := w) (n₀ := w.heap.size) (Nat.le_refl _) w9 D (.deferred (some [])) (.deferred none) (by omega) hK9 rfl rfl)⟩
  case stop =>
    rintro D c pre W _ _ h _
    exact h.elim
end
end Go.Proofs.YtcanfcpofihoeaaGreatDoor

namespace Go.Proofs.YtcanfcpofihoeaaGreatDoor
open Go.RowKit Go.Shelf
set_option linter.unusedVariables false
set_option linter.unusedSimpArgs false
theorem padZ_len (wd : Nat) (l : List UInt8) : (padZ wd l).length = max wd l.length := by
  simp [padZ]; omega
theorem dec2 (n : Nat) (h : n < 100) : (Lib.decDigits n).length = if n < 10 then 1 else 2 := by
  rw [Lib.decDigits]
  by_cases h1 : n < 10
  · rw [dif_pos h1, if_pos h1]; rfl
  · rw [dif_neg h1, if_neg h1, Lib.decDigits, dif_pos (by omega)]; rfl
theorem itoa2 (z : Int) (h : 0 ≤ z ∧ z ≤ 99) : (Lib.itoa z).length ≤ 2 := by
  obtain ⟨n, rfl⟩ : ∃ n : Nat, z = (n : Int) := ⟨z.toNat, by omega⟩
  rw [itoa_nat, dec2 n (by omega)]
  split <;> omega
theorem fmt_int (z : Int) (h : 0 ≤ z ∧ z ≤ 99) (w : World) : Calls Tryz.prog 51 #[.int .i64 z, .int .i64 10] w fun e w' => e = .returned (.string ⟨(Lib.itoa z).toArray⟩) ∧ Below w.heap.size w w' := by
  obtain ⟨n, rfl⟩ : ∃ n : Nat, z = (n : Int) := ⟨z.toNat, by omega⟩
  exact fmt_small n (by omega) w
theorem tail_len (m : Nat) : ∀ (l : List (List UInt8)), (∀ x ∈ l, x.length ≤ m) → (Lib.joinTail [58] l).length ≤ l.length * (m + 1)
  | [], _ => by simp [Lib.joinTail]
  | x :: r, h => by
    have h1 := tail_len m r (fun y hy => h y (by simp [hy]))
    have h2 := h x (by simp)
    simp only [Lib.joinTail, List.map_cons, List.flatten_cons, List.length_append, List.length_cons, List.length_nil, Nat.add_mul] at h1 ⊢
    omega
theorem join_len (m : Nat) (l : List (List UInt8)) (h : ∀ x ∈ l, x.length ≤ m) : (Lib.join l [58]).length ≤ l.length * (m + 1) := by
  cases l with
  | nil => simp [Lib.join_nil]
  | cons x r =>
    rw [Lib.join_cons, List.length_append]
    have h1 := tail_len m r (fun y hy => h y (by simp [hy]))
    have h2 := h x (by simp)
    simp only [List.length_cons, Nat.add_mul]
    omega
theorem txT_len (zs : List Int) (wd : Nat → Nat) (m : Nat) (h : ∀ k, k < zs.length → (txP zs wd k).length ≤ m) : (txT zs wd).length ≤ zs.length * (m + 1) := by
  have := join_len m ((txL zs wd (List.finRange zs.length)).map (·.data.toList)) (fun x hx => by
    simp only [txL, List.map_map, List.mem_map] at hx
    obtain ⟨y, _, rfl⟩ := hx
    have hy := y.2
    exact h _ (by omega))
  simpa [txT, txL] using this
/-- the width of a wheel's digits -/
def wdD (zs : List Int) (k : Nat) : Nat := (padZ 1 (Lib.itoa (ug zs k - 1))).length
def txD (zs ds : List Int) : List UInt8 := if okV zs ds then txT (ds.take zs.length) (wdD zs) else []
theorem txD_no {zs ds : List Int} (h : okV zs ds = false) : txD zs ds = [] := by simp [txD, h]
theorem txD_yes {zs ds : List Int} (h : okV zs ds = true) : txD zs ds = txT (ds.take zs.length) (wdD zs) := by simp [txD, h]
theorem wdD_le (zs : List Int) (k : Nat) (h : 2 ≤ ug zs k ∧ ug zs k ≤ 100) : wdD zs k ≤ 2 := by
  unfold wdD
  rw [padZ_len]
  have := itoa2 (ug zs k - 1) (by omega)
  omega
set_option maxHeartbeats 1000000 in
theorem dtw_any (bS n cap cb k : Nat) (zs : List Int) (hk : k < n) (hn : n = zs.length) (hz : 2 ≤ ug zs k ∧ ug zs k ≤ 100) (w : World) (hS : Stk w bS zs) (hc : w.cell? ⟨cb, 0, none⟩ = some (.slice (some ⟨bS, 0, none⟩) n cap)) :
    Calls Tryz.prog 54 #[.int .i64 (k : Int), .pointer (some ⟨cb, 0, none⟩)] w fun e w' => e = .returned (.int .i64 ((wdD zs k : Nat) : Int)) ∧ Below w.heap.size w w' := by
  have x0 : w.cell? ⟨bS, k, none⟩ = some (.int .u8 (ug zs k)) := hS.2.1 k (by omega)
  unfold wdD
  obtain ⟨z, hzz⟩ : ∃ z, ug zs k = z := ⟨_, rfl⟩
  rw [hzz] at x0 hz ⊢
  have t1 : IntKind.u8.wrap (z - 1) = z - 1 := by unfold IntKind.wrap; simp [IntKind.bits, IntKind.signed]; omega
  have HX := hid (decimal8_any (z - 1) (by omega) 1 (by omega) (by have := itoa2 (z - 1) (by omega); omega) w (fmt_int (z - 1) (by omega) w))
  obtain ⟨s, hs⟩ : ∃ s, padZ 1 (Lib.itoa (z - 1)) = s := ⟨_, rfl⟩
  rw [hs] at HX ⊢
  have hLe : (⟨s.toArray⟩ : ByteArray).size = s.length := by simp [ByteArray.size]
  obtain ⟨L, hL⟩ : ∃ L, s.length = L := ⟨_, rfl⟩
  rw [hL] at hLe ⊢
  have k0 : (0 : Int) ≤ (k : Int) := by omega
  have k1 : (k : Int) < (n : Int) := by omega
  clear hs hzz hz hS hn hk hL
  go_enter Tryz.func54, Tryz.ntmps54
  go_wp2_with fail
  refine HX.out.mono ?_
  rintro e w1 ⟨rfl, hB1⟩
  have B1 := hid hB1
  clear hB1
  go_wp2_with fail
  go_ret
  exact ⟨rfl, B1.out⟩
theorem Row.stkD {w : World} {g : Nat} {t : TypeId} {d0 d1 d2 d3 d4 d5 d6 d7 : Int} (h : Row w g t [.int .u8 d0, .int .u8 d1, .int .u8 d2, .int .u8 d3, .int .u8 d4, .int .u8 d5, .int .u8 d6, .int .u8 d7]) (ho : Oct d0 d1 d2 d3 d4 d5 d6 d7) (n : Nat) (hn : n ≤ 8) : Stk w g (List.take n [d0, d1, d2, d3, d4, d5, d6, d7]) := by
  refine ⟨h.lt, fun j hj => ?_, fun z hz => ?_, by simp; omega⟩
  · rw [h.cell, List.getElem?_take]
    have hj8 : j < 8 := by simp at hj; omega
    have hjn : j < n := by simp at hj; omega
    rw [if_pos hjn]
    match j, hj8 with
    | 0, _ => rfl
    | 1, _ => rfl
    | 2, _ => rfl
    | 3, _ => rfl
    | 4, _ => rfl
    | 5, _ => rfl
    | 6, _ => rfl
    | 7, _ => rfl
  · have := List.mem_of_mem_take hz
    obtain ⟨h0, h1, h2, h3, h4, h5, h6, h7⟩ := ho
    simp only [List.mem_cons, List.not_mem_nil, or_false] at this
    rcases this with rfl | rfl | rfl | rfl | rfl | rfl | rfl | rfl <;> assumption
theorem ug_take (ds : List Int) (n k : Nat) (h : k < n) : ug (ds.take n) k = ds[k]?.getD 0 := by
  unfold ug
  rw [List.getElem?_take, if_pos h]
set_option maxRecDepth 100000 in
set_option maxHeartbeats 4000000 in
theorem implDT_any (b n cap : Nat) (zs : List Int) (d0 d1 d2 d3 d4 d5 d6 d7 : Int) (w : World) (h : Stk w b zs) (hn : n = zs.length) (ho : Oct d0 d1 d2 d3 d4 d5 d6 d7) :
    Calls Tryz.prog 35 #[.slice (some ⟨b, 0, none⟩) n cap, .agg #[.int .u8 d0, .int .u8 d1, .int .u8 d2, .int .u8 d3, .int .u8 d4, .int .u8 d5, .int .u8 d6, .int .u8 d7]] w fun e w' => e = .returned (.string ⟨(txD zs [d0, d1, d2, d3, d4, d5, d6, d7]).toArray⟩) ∧ Below w.heap.size w w' := by
  have N := hid hn; have HO := hid ho
  have hbl := h.1
  obtain ⟨V, hV⟩ : ∃ V, V = (w.alloc (.cells #[.slice (some ⟨b, 0, none⟩) n cap] 26)).alloc (.cells #[.int .u8 d0, .int .u8 d1, .int .u8 d2, .int .u8 d3, .int .u8 d4, .int .u8 d5, .int .u8 d6, .int .u8 d7] 39) := ⟨_, rfl⟩
  have bV : Below w.heap.size w V := by rw [hV]; exact ((Below.refl w.heap.size w).alloc (Nat.le_refl _) _).alloc (by simp) _
  have sV : V.heap.size = w.heap.size + 1 + 1 := by rw [hV]; simp
  have rS : Row V w.heap.size 26 [.slice (some ⟨b, 0, none⟩) n cap] := by rw [hV]; exact (Row.new w _ _).alloc _
  have rD : Row V (w.heap.size + 1) 39 [.int .u8 d0, .int .u8 d1, .int .u8 d2, .int .u8 d3, .int .u8 d4, .int .u8 d5, .int .u8 d6, .int .u8 d7] := by
    have h := Row.new (w.alloc (.cells #[.slice (some ⟨b, 0, none⟩) n cap] 26)) 39 [.int .u8 d0, .int .u8 d1, .int .u8 d2, .int .u8 d3, .int .u8 d4, .int .u8 d5, .int .u8 d6, .int .u8 d7]
    simp only [World.size_alloc] at h
    rw [hV]; exact h
  have HV := hid hV
  have HVL := hid (validDigits_any b n cap zs d0 d1 d2 d3 d4 d5 d6 d7 V (h.below bV hbl) hn ho)
  have cS := rS.cell 0
  have c0 := rD.cell 0; have c1 := rD.cell 1; have c2 := rD.cell 2; have c3 := rD.cell 3; have c4 := rD.cell 4; have c5 := rD.cell 5; have c6 := rD.cell 6; have c7 := rD.cell 7
  simp only [List.getElem?_cons_zero, List.getElem?_cons_succ] at cS c0 c1 c2 c3 c4 c5 c6 c7
  have RS := hid rS; have RD := hid rD; have BV := hid bV; have H := hid h
  rw [hV] at cS c0 c1 c2 c3 c4 c5 c6 c7
  clear h hn ho rS rD bV hV
  cases hv : okV zs [d0, d1, d2, d3, d4, d5, d6, d7] with
  | false =>
    rw [txD_no hv]
    rw [hv] at HVL
    clear hv
    go_enter Tryz.func35, Tryz.ntmps35
    go_wp2_with (go_at_call 45; rw [← HV.out]; refine HVL.out.mono ?_; rintro e w1 ⟨rfl, hB1⟩)
    go_ret
    exact ⟨rfl, BV.out.trans (hB1.mono (by omega))⟩
  | true =>
    rw [txD_yes hv, ← N.out]
    rw [hv] at HVL
    obtain ⟨hv1, hv2⟩ := okV_out hv
    obtain ⟨h1n, h8, hin, _, _⟩ := okL_out hv1
    have hlt := okD_lt hv2 h8 (fun j hj => (oct_bd HO.out j hj).1)
    rw [← N.out] at h1n h8 hin hlt
    have HI := hid hin; have HL := hid hlt
    have n0 : (0 : Int) ≤ (n : Int) := by omega
    have n8 : (n : Int) ≤ 8 := by omega
    have hdk : ∀ k, k < n → 0 ≤ ug (List.take n [d0, d1, d2, d3, d4, d5, d6, d7]) k ∧ ug (List.take n [d0, d1, d2, d3, d4, d5, d6, d7]) k ≤ 99 := fun k hk => by
      rw [ug_take _ _ _ hk]
      have a := HI.out k hk; have b := HL.out k hk; have c := oct_bd HO.out k (by omega)
      omega
    have hP : ∀ k, k < n → (txP (List.take n [d0, d1, d2, d3, d4, d5, d6, d7]) (wdD zs) k).length ≤ 2 := fun k hk => by
      unfold txP
      rw [padZ_len]
      have a := itoa2 _ (hdk k hk); have b := wdD_le zs k (by have := HI.out k hk; exact this)
      omega
    have hll : (List.take n [d0, d1, d2, d3, d4, d5, d6, d7]).length = n := by simp; omega
    have hTL := txT_len (List.take n [d0, d1, d2, d3, d4, d5, d6, d7]) (wdD zs) 2 (by rw [hll]; exact hP)
    rw [hll] at hTL
    have HT := hid (fun (w1 : World) (hB1 : Below V.heap.size V w1) => textLFD_any w.heap.size (w.heap.size + 1) n 8 (List.take n [d0, d1, d2, d3, d4, d5, d6, d7]) hll.symm h1n (wdD zs) w1 (Row.stkD (RD.out.below hB1 RD.out.lt) HO.out n h8)
      (fun k W hk hB => dtw_any b n cap w.heap.size k zs hk N.out (HI.out k hk) W ((H.out.below BV.out hbl).below (hB1.trans (hB.mono hB1.size)) (by omega)) (by have h9 := (RS.out.below (hB1.trans (hB.mono hB1.size)) RS.out.lt).cell 0; simpa using h9))
      (fun k W hk hB => decimal8_any _ (by have := hdk k hk; omega) _ (by have := wdD_le zs k (HI.out k hk); omega) (by have := itoa2 _ (hdk k hk); omega) W (fmt_int _ (hdk k hk) W))
      (by omega))
    obtain ⟨T, hT⟩ : ∃ T, txT (List.take n [d0, d1, d2, d3, d4, d5, d6, d7]) (wdD zs) = T := ⟨_, rfl⟩
    rw [hT] at HT ⊢
    clear hv hv1 hv2 hin hlt hdk hP hll hTL hT
    go_enter Tryz.func35, Tryz.ntmps35
    go_wp2_with (first | (go_at_call 45; rw [← HV.out]; refine HVL.out.mono ?_; rintro e w1 ⟨rfl, hB1⟩; have q1 := RS.out.below hB1 RS.out.lt; have cq := q1.cell 0; simp only [List.getElem?_cons_zero] at cq; have HTW := hid (HT.out w1 hB1); have B1 := hid hB1; clear hB1 q1) | (go_at_call 53; refine HTW.out.mono ?_; rintro e w2 ⟨rfl, hB2⟩))
    go_ret
    exact ⟨rfl, BV.out.trans ((B1.out.mono (by omega)).trans (hB2.mono (by have := B1.out.size; omega)))⟩
end Go.Proofs.YtcanfcpofihoeaaGreatDoor

namespace Go.Proofs.YtcanfcpofihoeaaGreatDoor
open Go.RowKit Go.Shelf
set_option linter.unusedVariables false
set_option linter.unusedSimpArgs false
theorem dec_int (z : Int) (h : 0 ≤ z ∧ z < 1000) (w : World) : Calls Tryz.prog 56 #[.int .i64 z] w fun e w' => e = .returned (.string ⟨(Lib.itoa z).toArray⟩) ∧ Below w.heap.size w w' := by
  obtain ⟨n, rfl⟩ : ∃ n : Nat, z = (n : Int) := ⟨z.toNat, by omega⟩
  rw [itoa_nat]
  exact dec_any 3 (by omega) n (by omega) w
theorem itoa_len (z : Int) (h : 0 ≤ z ∧ z ≤ 99) : (Lib.itoa z).length = if z < 10 then 1 else 2 := by
  obtain ⟨n, rfl⟩ : ∃ n : Nat, z = (n : Int) := ⟨z.toNat, by omega⟩
  rw [itoa_nat, dec2 n (by omega)]
  by_cases h1 : n < 10
  · rw [if_pos h1, if_pos (by omega)]
  · rw [if_neg h1, if_neg (by omega)]
theorem pad_pos (z v : Int) (hz : 2 ≤ z ∧ z ≤ 100) (hv : 0 ≤ v ∧ v < z) (h1 : 10 < z) (h2 : v < 10) : padZ (padZ 1 (Lib.itoa (z - 1))).length (Lib.itoa v) = 48 :: Lib.itoa v := by
  have a := itoa_len (z - 1) (by omega); have b := itoa_len v (by omega)
  rw [if_neg (by omega)] at a
  rw [if_pos h2] at b
  have e : (padZ 1 (Lib.itoa (z - 1))).length = 2 := by rw [padZ_len, a]; rfl
  rw [e, padZ, b]
  rfl
theorem pad_neg (z v : Int) (hz : 2 ≤ z ∧ z ≤ 100) (hv : 0 ≤ v ∧ v < z) (h : ¬ (10 < z ∧ v < 10)) : padZ (padZ 1 (Lib.itoa (z - 1))).length (Lib.itoa v) = Lib.itoa v := by
  have a := itoa_len (z - 1) (by omega); have b := itoa_len v (by omega)
  have e : (padZ 1 (Lib.itoa (z - 1))).length ≤ (Lib.itoa v).length := by
    rw [padZ_len, a, b]
    by_cases h1 : 10 < z
    · rw [if_neg (show ¬ v < 10 by omega)]; split <;> decide
    · rw [if_pos (show z - 1 < 10 by omega)]; split <;> decide
  rw [padZ, Nat.sub_eq_zero_of_le e]
  rfl
set_option maxHeartbeats 1000000 in
theorem specDigit_any (z v : Int) (hz : 2 ≤ z ∧ z ≤ 100) (hv : 0 ≤ v ∧ v < z) (w : World) :
    Calls Tryz.prog 39 #[.int .u8 z, .int .u8 v] w fun e w' => e = .returned (.string ⟨(padZ (padZ 1 (Lib.itoa (z - 1))).length (Lib.itoa v)).toArray⟩) ∧ Below w.heap.size w w' := by
  have HX := hid (dec_int v (by omega) w)
  have hl := itoa2 v (by omega)
  have t1 : IntKind.i64.wrap v = v := IntWalk.i64_in _ (by omega)
  by_cases h1 : 10 < z
  · by_cases h2 : v < 10
    · rw [pad_pos z v hz hv h1 h2]
      obtain ⟨s, hs⟩ : ∃ s, Lib.itoa v = s := ⟨_, rfl⟩
      rw [hs] at HX hl ⊢
      have hsz : ¬ (9223372036854775807 < 1 + s.length) := by omega
      have HA := hid (app_mk [48] s)
      clear hs hl hz hv
      go_enter Tryz.func39, Tryz.ntmps39
      go_wp2_with fail
      refine HX.out.mono ?_
      rintro e w1 ⟨rfl, hB1⟩
      have B1 := hid hB1
      clear hB1
      go_wp2_with fail
      go_ret
      exact ⟨(show _ = Ending.returned (.string ((⟨#[48]⟩ : ByteArray) ++ ⟨s.toArray⟩)) from rfl).trans (congrArg _ (congrArg _ HA.out)), B1.out⟩
    · rw [pad_neg z v hz hv (by omega)]
      obtain ⟨s, hs⟩ : ∃ s, Lib.itoa v = s := ⟨_, rfl⟩
      rw [hs] at HX hl ⊢
      clear hs hl hz hv
      go_enter Tryz.func39, Tryz.ntmps39
      go_wp2_with fail
      refine HX.out.mono ?_
      rintro e w1 ⟨rfl, hB1⟩
      have B1 := hid hB1
      clear hB1
      go_wp2_with fail
      go_ret
      exact ⟨rfl, B1.out⟩
  · rw [pad_neg z v hz hv (by omega)]
    obtain ⟨s, hs⟩ : ∃ s, Lib.itoa v = s := ⟨_, rfl⟩
    rw [hs] at HX hl ⊢
    clear hs hl hz hv
    go_enter Tryz.func39, Tryz.ntmps39
    go_wp2_with fail
    refine HX.out.mono ?_
    rintro e w1 ⟨rfl, hB1⟩
    have B1 := hid hB1
    clear hB1
    go_wp2_with fail
    go_ret
    exact ⟨rfl, B1.out⟩
theorem shift_sep (sep : List UInt8) : ∀ r : List (List UInt8), (r.map (sep ++ ·)).flatten ++ sep = sep ++ (r.map (· ++ sep)).flatten
  | [] => by simp
  | y :: r => by
    have h := shift_sep sep r
    simp only [List.map_cons, List.flatten_cons, List.append_assoc] at h ⊢
    rw [h]
theorem join_snoc (sep x : List UInt8) (l : List (List UInt8)) : Lib.join (l ++ [x]) sep = (l.map (· ++ sep)).flatten ++ x := by
  cases l with
  | nil => simp [Lib.join_one]
  | cons y r =>
    have h := shift_sep sep r
    rw [List.cons_append, Lib.join_cons, Lib.joinTail, List.map_append, List.flatten_append, List.map_cons, List.flatten_cons]
    simp only [List.map_cons, List.map_nil, List.flatten_cons, List.flatten_nil, List.append_nil, List.append_assoc]
    rw [← List.append_assoc _ sep x, h]
    simp
/-- the text behind k wheels -/
def accT (zs : List Int) (wd : Nat → Nat) (k : Nat) : List UInt8 := if k < zs.length then ((List.range k).map fun j => txP zs wd (zs.length - 1 - j) ++ [58]).flatten else txT zs wd
theorem txT_eq (zs : List Int) (wd : Nat → Nat) : txT zs wd = Lib.join ((List.range zs.length).map fun j => txP zs wd (zs.length - 1 - j)) [58] := by
  unfold txT
  congr 1
  apply List.ext_getElem?
  intro i
  simp only [txL, List.map_map, List.getElem?_map]
  by_cases h : i < zs.length
  · simp [h]
  · simp [h]
theorem accT_zero (zs : List Int) (wd : Nat → Nat) (h : 1 ≤ zs.length) : accT zs wd 0 = [] := by rw [accT, if_pos (by omega)]; rfl
theorem accT_succ (zs : List Int) (wd : Nat → Nat) (k : Nat) (h : k + 1 < zs.length) : accT zs wd (k + 1) = accT zs wd k ++ txP zs wd (zs.length - 1 - k) ++ [58] := by
  unfold accT
  rw [if_pos h, if_pos (by omega), List.range_succ, List.map_append, List.flatten_append]
  simp
theorem accT_last (zs : List Int) (wd : Nat → Nat) (k : Nat) (h : k + 1 = zs.length) : accT zs wd (k + 1) = accT zs wd k ++ txP zs wd (zs.length - 1 - k) := by
  unfold accT
  rw [if_neg (by omega), if_pos (by omega), txT_eq, ← h, List.range_succ, List.map_append, List.map_cons, List.map_nil, join_snoc, List.map_map]
  rfl
theorem accT_all (zs : List Int) (wd : Nat → Nat) : accT zs wd zs.length = txT zs wd := by unfold accT; rw [if_neg (by omega)]
theorem accT_len (zs : List Int) (wd : Nat → Nat) (m : Nat) (h : ∀ k, k < zs.length → (txP zs wd k).length ≤ m) (h8 : zs.length ≤ 8) : ∀ k, k ≤ zs.length → (accT zs wd k).length ≤ 8 * (m + 1) := fun k hk => by
  have aux : ∀ k, k < zs.length → (accT zs wd k).length ≤ k * (m + 1) := by
    intro k
    induction k with
    | zero => intro hk; rw [accT_zero _ _ (by omega)]; simp
    | succ k ih =>
      intro hk
      rw [accT_succ _ _ _ hk]
      have a := ih (by omega); have b := h (zs.length - 1 - k) (by omega)
      simp only [List.length_append, List.length_cons, List.length_nil, Nat.add_mul]
      omega
  have mono : ∀ a, a ≤ 8 → a * (m + 1) ≤ 8 * (m + 1) := fun a ha => Nat.mul_le_mul_right _ ha
  by_cases hl : k < zs.length
  · exact Nat.le_trans (aux k hl) (mono k (by omega))
  · obtain rfl : k = zs.length := by omega
    rw [accT_all]
    exact Nat.le_trans (txT_len zs wd m h) (mono _ h8)
theorem cel_get {d0 d1 d2 d3 d4 d5 d6 d7 : Int} (d : Nat) (h : d < 8) : ([.int .u8 d0, .int .u8 d1, .int .u8 d2, .int .u8 d3, .int .u8 d4, .int .u8 d5, .int .u8 d6, .int .u8 d7] : List Value)[d]? = some (.int .u8 (([d0, d1, d2, d3, d4, d5, d6, d7] : List Int)[d]?.getD 0)) := by
  match d, h with
  | 0, _ => rfl
  | 1, _ => rfl
  | 2, _ => rfl
  | 3, _ => rfl
  | 4, _ => rfl
  | 5, _ => rfl
  | 6, _ => rfl
  | 7, _ => rfl
end Go.Proofs.YtcanfcpofihoeaaGreatDoor

namespace Go.Proofs.YtcanfcpofihoeaaGreatDoor
open Go.RowKit Go.Shelf
set_option linter.unusedVariables false
set_option linter.unusedSimpArgs false
def txS (zs : List Int) : List UInt8 := if okL zs then txT zs (fun _ => 1) else []
theorem txS_no {zs : List Int} (h : okL zs = false) : txS zs = [] := by simp [txS, h]
theorem txS_yes {zs : List Int} (h : okL zs = true) : txS zs = txT zs (fun _ => 1) := by simp [txS, h]
theorem tab_below {W W' : World} {B : Nat} (h : Lib.TabIs Tryz.prog W "internal/strconv.uint64pow10" .u64 Lib.pow10Tab) (hb : Below B W W') (hB : 3 < B) : Lib.TabIs Tryz.prog W' "internal/strconv.uint64pow10" .u64 Lib.pow10Tab := var?_below hb (by kernel_rfl) hB h
end Go.Proofs.YtcanfcpofihoeaaGreatDoor

namespace Go.Proofs.YtcanfcpofihoeaaGreatDoor
open Go.RowKit Go.Shelf

theorem Row.set8 {w : World} {g : Nat} {e : TypeId} {xs : List Value} (h : Row w g e xs) (hl : xs.length = 8) (v0 v1 v2 v3 v4 v5 v6 v7 : Value) :
    Row ((((((((w.setCell ⟨g, 0, none⟩ v0).setCell ⟨g, 1, none⟩ v1).setCell ⟨g, 2, none⟩ v2).setCell ⟨g, 3, none⟩ v3).setCell ⟨g, 4, none⟩ v4).setCell ⟨g, 5, none⟩ v5).setCell ⟨g, 6, none⟩ v6).setCell ⟨g, 7, none⟩ v7) g e [v0, v1, v2, v3, v4, v5, v6, v7] := by
  have r := (((((((h.set 0 v0).set 1 v1).set 2 v2).set 3 v3).set 4 v4).set 5 v5).set 6 v6).set 7 v7
  match xs, hl with
  | [_, _, _, _, _, _, _, _], _ => exact r
theorem below_set8 {w w0 : World} {g n : Nat} (h : Below n w0 w) (hn : n ≤ g) (v0 v1 v2 v3 v4 v5 v6 v7 : Value) : Below n w0 ((((((((w.setCell ⟨g, 0, none⟩ v0).setCell ⟨g, 1, none⟩ v1).setCell ⟨g, 2, none⟩ v2).setCell ⟨g, 3, none⟩ v3).setCell ⟨g, 4, none⟩ v4).setCell ⟨g, 5, none⟩ v5).setCell ⟨g, 6, none⟩ v6).setCell ⟨g, 7, none⟩ v7) :=
  (((((((h.setCell (p := ⟨g, 0, none⟩) hn v0).setCell (p := ⟨g, 1, none⟩) hn v1).setCell (p := ⟨g, 2, none⟩) hn v2).setCell (p := ⟨g, 3, none⟩) hn v3).setCell (p := ⟨g, 4, none⟩) hn v4).setCell (p := ⟨g, 5, none⟩) hn v5).setCell (p := ⟨g, 6, none⟩) hn v6).setCell (p := ⟨g, 7, none⟩) hn v7
theorem heap_set8 {g : Nat} (w : World) (D : Nat) (hD : D ≠ g) (v0 v1 v2 v3 v4 v5 v6 v7 : Value) : ((((((((w.setCell ⟨g, 0, none⟩ v0).setCell ⟨g, 1, none⟩ v1).setCell ⟨g, 2, none⟩ v2).setCell ⟨g, 3, none⟩ v3).setCell ⟨g, 4, none⟩ v4).setCell ⟨g, 5, none⟩ v5).setCell ⟨g, 6, none⟩ v6).setCell ⟨g, 7, none⟩ v7).heap[D]? = w.heap[D]? := by
  rw [Below.heap_setCell _ _ _ _ hD, Below.heap_setCell _ _ _ _ hD, Below.heap_setCell _ _ _ _ hD, Below.heap_setCell _ _ _ _ hD, Below.heap_setCell _ _ _ _ hD, Below.heap_setCell _ _ _ _ hD, Below.heap_setCell _ _ _ _ hD, Below.heap_setCell _ _ _ _ hD]
end Go.Proofs.YtcanfcpofihoeaaGreatDoor

namespace Go.Proofs.YtcanfcpofihoeaaGreatDoor
open Go.RowKit Go.Shelf

attribute [local go_sem] Oper.semAt_some
theorem Row.kept {A B : World} {g : Nat} {e : TypeId} {xs : List Value} {row : Option Nat} (h : Row A g e xs) (hg : A.grownBy B row) (hr : ∀ r, row = some r → ∃ o : Obj, A.heap[r]? = some o ∧ o.isCells = false) : Row B g e xs :=
  (grownBy_keeps_cells hg hr h rfl).trans h

theorem digit_raw2 (v p z : Int) (hv : 0 ≤ v) (hv2 : v ≤ 1000000000000) (hp : 1 ≤ p) (hz : 2 ≤ z) (hz2 : z ≤ 100) :
    IntKind.u8.wrap ((IntKind.i64.wrap (v.tdiv p)).tmod z) = v / p % z := by
  have e1 : v.tdiv p = v / p := Int.tdiv_eq_ediv_of_nonneg hv
  have h0 : 0 ≤ v / p := Int.ediv_nonneg hv (by omega)
  have h1 : v / p ≤ v := Int.ediv_le_self _ hv
  rw [e1, IntWalk.i64_in (v / p) (by omega)]
  have e2 : (v / p).tmod z = v / p % z := Int.tmod_eq_emod_of_nonneg h0
  have h2 := Int.emod_nonneg (v / p) (show z ≠ 0 by omega)
  have h3 := Int.emod_lt_of_pos (v / p) (show 0 < z by omega)
  rw [e2]
  simp only [IntKind.wrap, IntKind.signed, IntKind.bits]
  simp
  omega

set_option maxRecDepth 100000 in
set_option maxHeartbeats 4000000 in
theorem digits_in (F : Fence) (m : Nat) (hf1 : F.fn 36) (hf2 : F.fn 46) (hf3 : F.fn 68) (hro : F.round = none) (hm : 3 ≤ m)
    (b n cap : Nat) (zs : List Int) (hn : n = zs.length) (h8 : n ≤ 8) (hin : inB zs n) (v : Int) (hv : 0 ≤ v) (hv2 : v ≤ 1000000000000) (w : World) (hS : Stk w b zs) :
    CallsIn F m Tryz.prog 36 #[.slice (some ⟨b, 0, none⟩) n cap, .int .i64 v] w fun e W' => e = .returned (.agg #[.int .u8 (dg (dgL zs v) 0), .int .u8 (dg (dgL zs v) 1), .int .u8 (dg (dgL zs v) 2), .int .u8 (dg (dgL zs v) 3), .int .u8 (dg (dgL zs v) 4), .int .u8 (dg (dgL zs v) 5), .int .u8 (dg (dgL zs v) 6), .int .u8 (dg (dgL zs v) 7)]) ∧ Below w.heap.size w W' := by
  have h1 : 1 ≤ m := by omega
  have hlt := hS.1
  have hC := hid hS.2.1
  have hI := hid hin
  have hN := hid hn
  clear hS hin hn
  refine callsIn_of_wp_marks Tryz.func36 rfl hf1 ?_ hro
  simp only [Tryz.ntmps36, List.size_toArray, List.length_cons, List.length_nil, Nat.reduceAdd, Nat.reduceSub, Array.replicate_succ, Array.replicate_zero, List.push_toArray, List.append_toArray, List.nil_append, List.cons_append]
  gi_wp2_with (gi_at_call 46; refine (places_in F (m - 1) hf2 hro _ _ _ _).mono ?_; rintro e w' ⟨rfl, rfl⟩)
  have rS := Row.new w 26 [.slice (some ⟨b, 0, none⟩) n cap]
  have rV := Row.new (w.alloc (.cells #[.slice (some ⟨b, 0, none⟩) n cap] 26)) 2 [.int .i64 v]
  have rR := Row.new ((w.alloc (.cells #[.slice (some ⟨b, 0, none⟩) n cap] 26)).alloc (.cells #[.int .i64 v] 2)) 39 zero8
  have rD := Row.new (((w.alloc (.cells #[.slice (some ⟨b, 0, none⟩) n cap] 26)).alloc (.cells #[.int .i64 v] 2)).alloc (.cells zero8.toArray 39)) 39 zero8
  have bN := Boxed.new ((((w.alloc (.cells #[.slice (some ⟨b, 0, none⟩) n cap] 26)).alloc (.cells #[.int .i64 v] 2)).alloc (.cells zero8.toArray 39)).alloc (.cells zero8.toArray 39)) 26 (.slice (some ⟨b, 0, none⟩) n cap)
  simp only [World.size_alloc] at rV rR rD bN
  have hB0 : Below w.heap.size w (((((w.alloc (.cells #[.slice (some ⟨b, 0, none⟩) n cap] 26)).alloc (.cells #[.int .i64 v] 2)).alloc (.cells zero8.toArray 39)).alloc (.cells zero8.toArray 39)).alloc (.cells #[.slice (some ⟨b, 0, none⟩) n cap] 26)) :=
    (((((Below.refl _ w).alloc (Nat.le_refl _) _).alloc (by simp) _).alloc (by simp; omega) _).alloc (by simp; omega) _).alloc (by simp; omega) _
  have rS' := hid ((((rS.alloc (.cells #[.int .i64 v] 2)).alloc (.cells zero8.toArray 39)).alloc (.cells zero8.toArray 39)).alloc (.cells #[.slice (some ⟨b, 0, none⟩) n cap] 26))
  have rV' := hid (((rV.alloc (.cells zero8.toArray 39)).alloc (.cells zero8.toArray 39)).alloc (.cells #[.slice (some ⟨b, 0, none⟩) n cap] 26))
  have rR' := hid ((rR.alloc (.cells zero8.toArray 39)).alloc (.cells #[.slice (some ⟨b, 0, none⟩) n cap] 26))
  have rD' := hid (rD.alloc (.cells #[.slice (some ⟨b, 0, none⟩) n cap] 26))
  clear rS rV rR rD
  refine wpIn_rangeFunc_ownG hro h1 (gf := 68) (lb := #[.pointer (some ⟨w.heap.size + 1 + 1 + 1 + 1, 0, none⟩)]) rfl hf3 (enters_of Tryz.func68 (by kernel_rfl) rfl)
    (places_stops F (m - 1) hf3 hro (by omega) (w.heap.size + 1 + 1 + 1 + 1) w.heap.size b n cap zs hN.out h8 hI.out _ (by simp) (by simp; omega) hlt bN.cell (fun j hj => (hB0.cell (p := ⟨b, j, none⟩) hlt).trans (hC.out j (by rw [← hN.out]; exact hj)))) belowK_t (belowK_b (by simp; omega)) (Below.refl _ _) (fun _ => rfl)
    (fun pre W => (Row W w.heap.size 26 [.slice (some ⟨b, 0, none⟩) n cap] ∧ Row W (w.heap.size + 1) 2 [.int .i64 v] ∧ Row W (w.heap.size + 1 + 1) 39 zero8 ∧ Row W (w.heap.size + 1 + 1 + 1) 39 (dfold zs v pre)) ∧ Below w.heap.size w W)
    (fun _ _ _ => False)
    (OwnFrom.and (Own.from (fun s A B row hs hg hr => ⟨hs.1.kept hg hr, hs.2.1.kept hg hr, hs.2.2.1.kept hg hr, hs.2.2.2.kept hg hr⟩) _) (ownFrom_below (Nat.le_refl _) (by simp; omega)))
    (fun _ _ _ _ _ hs _ _ => hs)
    ⟨⟨rS'.out, rV'.out, rR'.out, rD'.out⟩, hB0⟩
    (fun x => { tmps := #[.slice (some ⟨b, 0, none⟩) n cap, .int .i64 v, .pointer (some ⟨w.heap.size, 0, none⟩), .pointer (some ⟨w.heap.size + 1, 0, none⟩), .pointer (some ⟨w.heap.size + 1 + 1, 0, none⟩), .pointer (some ⟨w.heap.size + 1 + 1 + 1, 0, none⟩), .int .i64 (x.1 : Int), .int .i64 (szL (zs.take x.1)), .slice (some ⟨b, 0, none⟩) n cap, .func (.func 68) #[] #[.pointer (some ⟨w.heap.size + 1 + 1 + 1 + 1, 0, none⟩)], .int .i64 (x.1 : Int), .int .i64 (szL (zs.take x.1)), undef, undef, undef, undef, undef, undef, undef, undef, undef, undef, undef, undef, undef], defers := [] }) ?assign ?body ?done ?stop
  case assign =>
    intro l x W K hK
    gi_wp2
    exact hK
  case body =>
    rintro l pre x W ⟨⟨hs, hvv, hr, hd⟩, hB⟩ _
    have hk := x.2
    have hc0 := hs.cell 0
    have hc1 := hvv.cell 0
    have hc2 : W.cell? ⟨b, x.1, none⟩ = some (.int .u8 (zs[x.1]?.getD 0)) := (hB.cell (p := ⟨b, x.1, none⟩) hlt).trans (hC.out x.1 (by rw [← hN.out]; exact hk))
    obtain ⟨old, hc3⟩ : ∃ u, W.cell? ⟨w.heap.size + 1 + 1 + 1, x.1, none⟩ = some u := ⟨_, (hd.cell x.1).trans (List.getElem?_eq_getElem (by rw [dfold_len]; omega))⟩
    have hf3 := hd.frozen x.1
    have hset := hid (hd.set x.1 (.int .u8 (v / szL (zs.take x.1) % zs[x.1]?.getD 0)))
    rw [← dfold_snoc] at hset
    have hzb := hI.out x.1 hk
    obtain ⟨s1, s2, _, _⟩ := szL_step zs x.1 (by rw [← hN.out]; exact hk) (by rw [← hN.out]; exact h8) (fun j hj => hI.out j (by omega))
    have HS := hid hs; have HV := hid hvv; have HR := hid hr; have HD := hid hd
    clear hs hvv hr hd
    obtain ⟨z, hz⟩ : ∃ z, z = zs[x.1]?.getD 0 := ⟨_, rfl⟩
    obtain ⟨p, hp⟩ : ∃ p, p = szL (zs.take x.1) := ⟨_, rfl⟩
    rw [← hp, ← hz] at hset
    rw [← hz] at hc2 hzb
    rw [← hp] at s1 s2
    rw [← hp]
    clear hp hz
    have n1 : (p == 0) = false := by simp; omega
    have n3 : IntKind.i64.wrap z = z := IntWalk.i64_in z (by omega)
    have n4 : z ≠ 0 := by omega
    have n5 : p ≠ 0 := by omega
    have n6 : (x.1 : Int) < 8 := by omega
    simp only [List.getElem?_cons_zero] at hc0 hc1
    gi_wp2
    refine region_held (S := fun W' => W'.cell? ⟨w.heap.size, 0, none⟩ = some (.slice (some ⟨b, 0, none⟩) n cap) ∧ W'.cell? ⟨w.heap.size + 1, 0, none⟩ = some (.int .i64 v) ∧ W'.cell? ⟨b, x.1, none⟩ = some (.int .u8 z)) (by kernel_rfl) (by kernel_rfl) (fun hnd => ?_)
    have hS : (fun W' : World => W'.cell? ⟨w.heap.size, 0, none⟩ = some (.slice (some ⟨b, 0, none⟩) n cap) ∧ W'.cell? ⟨w.heap.size + 1, 0, none⟩ = some (.int .i64 v) ∧ W'.cell? ⟨b, x.1, none⟩ = some (.int .u8 z)) W.drew := ⟨hc0, hc1, hc2⟩
    refine anyS_takeD (some 12) (i := 0) (v := ?_) hnd rfl rfl (by kernel_rfl) (by kernel_rfl) (by kernel_rfl) (fun _ _ _ h => h) ⟨by rfl, ?_, fun _ => rfl⟩ hS ?_
    rotate_left
    · intro w' hw'
      obtain ⟨hw1, hw2, hw3⟩ := hw'
      go_simp
      try with_reducible rfl
    simp only [Act.put, List.setIfInBounds_toArray, List.set_cons_zero, List.set_cons_succ]
    refine anyS_takeD (some 13) (i := 1) (v := ?_) hnd rfl rfl (by kernel_rfl) (by kernel_rfl) (by kernel_rfl) (fun _ _ _ h => h) ⟨by rfl, ?_, fun _ => rfl⟩ hS ?_
    rotate_left
    · intro w' hw'
      obtain ⟨hw1, hw2, hw3⟩ := hw'
      go_simp
      try with_reducible rfl
    simp only [Act.put, List.setIfInBounds_toArray, List.set_cons_zero, List.set_cons_succ]
    refine anyS_takeD (some 14) (i := 2) (v := ?_) hnd rfl rfl (by kernel_rfl) (by kernel_rfl) (by kernel_rfl) (fun _ _ _ h => h) ⟨by rfl, ?_, fun _ => rfl⟩ hS ?_
    rotate_left
    · intro w' hw'
      obtain ⟨hw1, hw2, hw3⟩ := hw'
      go_simp
      try with_reducible rfl
    simp only [Act.put, List.setIfInBounds_toArray, List.set_cons_zero, List.set_cons_succ]
    refine anyS_takeD (some 15) (i := 3) (v := ?_) hnd rfl rfl (by kernel_rfl) (by kernel_rfl) (by kernel_rfl) (fun _ _ _ h => h) ⟨by rfl, ?_, fun _ => rfl⟩ hS ?_
    rotate_left
    · intro w' hw'
      obtain ⟨hw1, hw2, hw3⟩ := hw'
      go_simp
      try with_reducible rfl
    simp only [Act.put, List.setIfInBounds_toArray, List.set_cons_zero, List.set_cons_succ]
    refine anyS_takeD (some 16) (i := 4) (v := ?_) hnd rfl rfl (by kernel_rfl) (by kernel_rfl) (by kernel_rfl) (fun _ _ _ h => h) ⟨by rfl, ?_, fun _ => rfl⟩ hS ?_
    rotate_left
    · intro w' hw'
      obtain ⟨hw1, hw2, hw3⟩ := hw'
      go_simp
      try with_reducible rfl
    simp only [Act.put, List.setIfInBounds_toArray, List.set_cons_zero, List.set_cons_succ]
    refine anyS_takeD (some 17) (i := 5) (v := ?_) hnd rfl rfl (by kernel_rfl) (by kernel_rfl) (by kernel_rfl) (fun _ _ _ h => h) ⟨by rfl, ?_, fun _ => rfl⟩ hS ?_
    rotate_left
    · intro w' hw'
      obtain ⟨hw1, hw2, hw3⟩ := hw'
      go_simp
      try with_reducible rfl
    simp only [Act.put, List.setIfInBounds_toArray, List.set_cons_zero, List.set_cons_succ]
    refine anyS_takeD (some 18) (i := 6) (v := ?_) hnd rfl rfl (by kernel_rfl) (by kernel_rfl) (by kernel_rfl) (fun _ _ _ h => h) ⟨by rfl, ?_, fun _ => rfl⟩ hS ?_
    rotate_left
    · intro w' hw'
      obtain ⟨hw1, hw2, hw3⟩ := hw'
      go_simp
      try with_reducible rfl
    simp only [Act.put, List.setIfInBounds_toArray, List.set_cons_zero, List.set_cons_succ]
    refine anyS_takeD (some 19) (i := 7) (v := ?_) hnd rfl rfl (by kernel_rfl) (by kernel_rfl) (by kernel_rfl) (fun _ _ _ h => h) ⟨by rfl, ?_, fun _ => rfl⟩ hS ?_
    rotate_left
    · intro w' hw'
      obtain ⟨hw1, hw2, hw3⟩ := hw'
      go_simp
      try with_reducible rfl
    simp only [Act.put, List.setIfInBounds_toArray, List.set_cons_zero, List.set_cons_succ]
    refine anyS_takeD (some 20) (i := 8) (v := ?_) hnd rfl rfl (by kernel_rfl) (by kernel_rfl) (by kernel_rfl) (fun _ _ _ h => h) ⟨by rfl, ?_, fun _ => rfl⟩ hS ?_
    rotate_left
    · intro w' hw'
      obtain ⟨hw1, hw2, hw3⟩ := hw'
      go_simp
      try with_reducible rfl
    simp only [Act.put, List.setIfInBounds_toArray, List.set_cons_zero, List.set_cons_succ]
    refine anyS_takeD (some 21) (i := 9) (v := ?_) hnd rfl rfl (by kernel_rfl) (by kernel_rfl) (by kernel_rfl) (fun _ _ _ h => h) ⟨by rfl, ?_, fun _ => rfl⟩ hS ?_
    rotate_left
    · intro w' hw'
      obtain ⟨hw1, hw2, hw3⟩ := hw'
      go_simp
      try with_reducible rfl
    simp only [Act.put, List.setIfInBounds_toArray, List.set_cons_zero, List.set_cons_succ]
    refine anyS_takeD (some 22) (i := 10) (v := ?_) hnd rfl rfl (by kernel_rfl) (by kernel_rfl) (by kernel_rfl) (fun _ _ _ h => h) ⟨by rfl, ?_, fun _ => rfl⟩ hS ?_
    rotate_left
    · intro w' hw'
      obtain ⟨hw1, hw2, hw3⟩ := hw'
      go_simp
      try with_reducible rfl
    simp only [Act.put, List.setIfInBounds_toArray, List.set_cons_zero, List.set_cons_succ]
    refine anyS_takeD (some 23) (i := 11) (v := ?_) hnd rfl rfl (by kernel_rfl) (by kernel_rfl) (by kernel_rfl) (fun _ _ _ h => h) ⟨by rfl, ?_, fun _ => rfl⟩ hS ?_
    rotate_left
    · intro w' hw'
      obtain ⟨hw1, hw2, hw3⟩ := hw'
      go_simp
      try with_reducible rfl
    simp only [Act.put, List.setIfInBounds_toArray, List.set_cons_zero, List.set_cons_succ]
    have hc3' : W.drew.cell? ⟨w.heap.size + 1 + 1 + 1, x.1, none⟩ = some old := hc3
    have hf3' : W.drew.frozen? ⟨w.heap.size + 1 + 1 + 1, x.1, none⟩ = false := hf3
    have HQ2 : Hid (IntKind.u8.wrap ((IntKind.i64.wrap (v.tdiv p)).tmod z) = v / p % z) := hid (digit_raw2 v p z hv hv2 s1 (by omega) (by omega))
    refine anyS_oneD none (i := 12) (w' := W.drew.setCell ⟨w.heap.size + 1 + 1 + 1, x.1, none⟩ (.int .u8 (IntKind.u8.wrap ((IntKind.i64.wrap (v.tdiv p)).tmod z)))) hnd (by kernel_rfl) rfl rfl (by rfl) rfl ?_ ?_ (anyS_done (by kernel_rfl) ?_ _)
    · go_simp
    · exact ⟨(cell_far (by show w.heap.size ≠ w.heap.size + 1 + 1 + 1; omega)).trans hc0, (cell_far (by show w.heap.size + 1 ≠ w.heap.size + 1 + 1 + 1; omega)).trans hc1, (cell_far (by show b ≠ w.heap.size + 1 + 1 + 1; omega)).trans hc2⟩
    · rw [HQ2.out]
      exact ⟨((KeepsOthers.drew _).trans (KeepsOthers.setCell _ _ _)).from _, ((Below.refl w.heap.size W).drew).setCell (p := ⟨w.heap.size + 1 + 1 + 1, x.1, none⟩) (by show _ ≤ w.heap.size + 1 + 1 + 1; omega) _,
        ⟨HS.out.other (a := ⟨w.heap.size + 1 + 1 + 1, x.1, none⟩) (by show w.heap.size + 1 + 1 + 1 ≠ w.heap.size; omega) _, HV.out.other (a := ⟨w.heap.size + 1 + 1 + 1, x.1, none⟩) (by show w.heap.size + 1 + 1 + 1 ≠ w.heap.size + 1; omega) _, HR.out.other (a := ⟨w.heap.size + 1 + 1 + 1, x.1, none⟩) (by show w.heap.size + 1 + 1 + 1 ≠ w.heap.size + 1 + 1; omega) _, hset.out⟩, (hB.drew).setCell (p := ⟨w.heap.size + 1 + 1 + 1, x.1, none⟩) (by show _ ≤ w.heap.size + 1 + 1 + 1; omega) _⟩
  case done =>
    rintro D ys W hD rfl ⟨⟨hs, hvv, hr, hd⟩, hB⟩ hK
    rw [dfold_all zs v hN.out h8] at hd
    obtain ⟨a0, e0⟩ : ∃ a, a = dg (dgL zs v) 0 := ⟨_, rfl⟩
    obtain ⟨a1, e1⟩ : ∃ a, a = dg (dgL zs v) 1 := ⟨_, rfl⟩
    obtain ⟨a2, e2⟩ : ∃ a, a = dg (dgL zs v) 2 := ⟨_, rfl⟩
    obtain ⟨a3, e3⟩ : ∃ a, a = dg (dgL zs v) 3 := ⟨_, rfl⟩
    obtain ⟨a4, e4⟩ : ∃ a, a = dg (dgL zs v) 4 := ⟨_, rfl⟩
    obtain ⟨a5, e5⟩ : ∃ a, a = dg (dgL zs v) 5 := ⟨_, rfl⟩
    obtain ⟨a6, e6⟩ : ∃ a, a = dg (dgL zs v) 6 := ⟨_, rfl⟩
    obtain ⟨a7, e7⟩ : ∃ a, a = dg (dgL zs v) 7 := ⟨_, rfl⟩
    rw [← e0, ← e1, ← e2, ← e3, ← e4, ← e5, ← e6, ← e7] at hd
    replace e0 := hid e0
    replace e1 := hid e1
    replace e2 := hid e2
    replace e3 := hid e3
    replace e4 := hid e4
    replace e5 := hid e5
    replace e6 := hid e6
    replace e7 := hid e7
    have c0 := hd.cell 0; have c1 := hd.cell 1; have c2 := hd.cell 2; have c3 := hd.cell 3; have c4 := hd.cell 4; have c5 := hd.cell 5; have c6 := hd.cell 6; have c7 := hd.cell 7
    have k0 := hr.frozen 0; have k1 := hr.frozen 1; have k2 := hr.frozen 2; have k3 := hr.frozen 3; have k4 := hr.frozen 4; have k5 := hr.frozen 5; have k6 := hr.frozen 6; have k7 := hr.frozen 7
    have z0 := hr.cell 0; have z1 := hr.cell 1; have z2 := hr.cell 2; have z3 := hr.cell 3; have z4 := hr.cell 4; have z5 := hr.cell 5; have z6 := hr.cell 6; have z7 := hr.cell 7
    simp only [zero8, List.getElem?_cons_zero, List.getElem?_cons_succ] at c0 c1 c2 c3 c4 c5 c6 c7 z0 z1 z2 z3 z4 z5 z6 z7
    have r2 := hid (hr.set8 rfl (.int .u8 a0) (.int .u8 a1) (.int .u8 a2) (.int .u8 a3) (.int .u8 a4) (.int .u8 a5) (.int .u8 a6) (.int .u8 a7))
    have b2 := hid (below_set8 (g := w.heap.size + 1 + 1) hB (by omega) (.int .u8 a0) (.int .u8 a1) (.int .u8 a2) (.int .u8 a3) (.int .u8 a4) (.int .u8 a5) (.int .u8 a6) (.int .u8 a7))
    have hD2 : w.heap.size + 1 + 1 ≠ D := by simp at hD; omega
    have hD3 : w.heap.size ≤ D := by simp at hD; omega
    have hK2 := hid (heap_set8 (g := w.heap.size + 1 + 1) W D (Ne.symm hD2) (.int .u8 a0) (.int .u8 a1) (.int .u8 a2) (.int .u8 a3) (.int .u8 a4) (.int .u8 a5) (.int .u8 a6) (.int .u8 a7))
    rw [hK] at hK2
    clear hD hr hd hs hvv rS' rV' rR' rD' hB bN hB0
    gi_wp2
    clear c0 c1 c2 c3 c4 c5 c6 c7 k0 k1 k2 k3 k4 k5 k6 k7 z0 z1 z2 z3 z4 z5 z6 z7 hK
    obtain ⟨V, hV⟩ : ∃ V, V = ((((((((W.setCell ⟨w.heap.size + 1 + 1, 0, none⟩ (.int .u8 a0)).setCell ⟨w.heap.size + 1 + 1, 1, none⟩ (.int .u8 a1)).setCell ⟨w.heap.size + 1 + 1, 2, none⟩ (.int .u8 a2)).setCell ⟨w.heap.size + 1 + 1, 3, none⟩ (.int .u8 a3)).setCell ⟨w.heap.size + 1 + 1, 4, none⟩ (.int .u8 a4)).setCell ⟨w.heap.size + 1 + 1, 5, none⟩ (.int .u8 a5)).setCell ⟨w.heap.size + 1 + 1, 6, none⟩ (.int .u8 a6)).setCell ⟨w.heap.size + 1 + 1, 7, none⟩ (.int .u8 a7)) := ⟨_, rfl⟩
    rw [← hV] at r2 b2 hK2 ⊢
    clear hV
    have r2 := r2.out.kept (grownBy_putObj' V D (.deferred none)) (fun r e => by cases e; exact ⟨_, hK2.out, rfl⟩)
    have g0 := r2.cell 0; have g1 := r2.cell 1; have g2 := r2.cell 2; have g3 := r2.cell 3; have g4 := r2.cell 4; have g5 := r2.cell 5; have g6 := r2.cell 6; have g7 := r2.cell 7
    simp only [List.getElem?_cons_zero, List.getElem?_cons_succ] at g0 g1 g2 g3 g4 g5 g6 g7
    refine ⟨by simp, .inl ⟨_, _, rfl, run_takeDeferred hK2.out, ?_⟩⟩
    exact ⟨.agg #[.int .u8 a0, .int .u8 a1, .int .u8 a2, .int .u8 a3, .int .u8 a4, .int .u8 a5, .int .u8 a6, .int .u8 a7], by simp [results, Tryz.results36, go_sem, g0, g1, g2, g3, g4, g5, g6, g7], by rw [e0.out, e1.out, e2.out, e3.out, e4.out, e5.out, e6.out, e7.out], b2.out.trans (belowK_b (w := w) (Nat.le_refl _) V D _ _ hD3 hK2.out rfl rfl)⟩
  case stop =>
    rintro D c pre W _ _ h _
    exact h.elim
end Go.Proofs.YtcanfcpofihoeaaGreatDoor

namespace Go.Proofs.YtcanfcpofihoeaaGreatDoor
open Go.RowKit

def sizeR (zs : List Int) : Int × Int := if okL zs then (szL zs, 0) else (0, 1)
theorem sizeR_no {zs : List Int} (h : okL zs = false) : sizeR zs = (0, 1) := by simp [sizeR, h]
theorem sizeR_yes {zs : List Int} (h : okL zs = true) : sizeR zs = (szL zs, 0) := by simp [sizeR, h]
theorem szC_eq {zs : List Int} (h : szL zs ≤ 1000000000000) : szC zs = szL zs := by unfold szC; omega

theorem l01Size_ok (b n cap : Nat) (zs : List Int) (w : World) (h : Stk w b zs) (hn : n = zs.length) (hv : okL zs = true) :
    Calls Tryz.prog 24 #[.slice (some ⟨b, 0, none⟩) n cap] w fun e w' => e = .returned (.int .i64 (szL zs)) ∧ w = w' := by
  obtain ⟨_, _, hin, _, hs⟩ := okL_out hv
  have := l01Size_any b n cap zs w h (by omega) (by rw [hn]; exact hin)
  rwa [hn, List.take_length, szC_eq hs, ← hn] at this
theorem l01Size_part (b n cap : Nat) (zs : List Int) (w : World) (h : Stk w b zs) (hn : n ≤ zs.length) (hv : okL zs = true) :
    Calls Tryz.prog 24 #[.slice (some ⟨b, 0, none⟩) n cap] w fun e w' => e = .returned (.int .i64 (szL (zs.take n))) ∧ w = w' := by
  obtain ⟨_, h8, hin, _, hs⟩ := okL_out hv
  have := l01Size_any b n cap zs w h hn (fun j hj => hin j (by omega))
  have hle : szL (zs.take n) ≤ szL zs := by
    have key : ∀ k, n + k ≤ zs.length → szL (zs.take n) ≤ szL (zs.take (n + k)) := by
      intro k
      induction k with
      | zero => intro _; exact Int.le_refl _
      | succ k ih =>
        intro hk
        have a := ih (by omega)
        have c := szL_mono zs (n + k) (by omega) (fun j hj => hin j (by omega))
        have d := (szL_bd zs (n + k) (by omega) (fun j hj => hin j (by omega))).1
        show _ ≤ szL (zs.take (n + k + 1))
        omega
    have := key (zs.length - n) (by omega)
    rwa [show n + (zs.length - n) = zs.length from by omega, List.take_length] at this
  rwa [show szC (zs.take n) = szL (zs.take n) from szC_eq (by omega)] at this

def placeR (zs : List Int) (k : Int) : Int × Int := if okL zs then (if 0 ≤ k ∧ k < zs.length then (szL (zs.take k.toNat), 0) else (0, 2)) else (0, 1)
theorem placeR_no {zs : List Int} (k : Int) (h : okL zs = false) : placeR zs k = (0, 1) := by simp [placeR, h]
theorem placeR_out {zs : List Int} (k : Int) (h : okL zs = true) (hk : ¬ (0 ≤ k ∧ k < zs.length)) : placeR zs k = (0, 2) := by simp only [placeR, h, if_true, if_neg hk]
theorem placeR_yes {zs : List Int} (k : Nat) (h : okL zs = true) (hk : k < zs.length) : placeR zs (k : Int) = (szL (zs.take k), 0) := by
  simp only [placeR, h, if_true]
  rw [if_pos (by omega), Int.toNat_natCast]

end Go.Proofs.YtcanfcpofihoeaaGreatDoor

namespace Go.Proofs.YtcanfcpofihoeaaGreatDoor
open Go.RowKit

def hdB (zs : List Int) (k x : Int) : Prop := (0 ≤ k ∧ k < zs.length) ∧ 0 ≤ x ∧ x < zs[k.toNat]?.getD 0
/-- how many values less than e have a digit x on a wheel with the place p and the base z -/
def belowF (p z x e : Int) : Int := e / (p * z) * p + min (max (e % (p * z) - x * p) 0) p
theorem belowF_bd (p z x e : Int) (hp : 1 ≤ p) (hz : 2 ≤ z) (he : 0 ≤ e) : 0 ≤ belowF p z x e ∧ belowF p z x e ≤ e + p := by
  unfold belowF
  have hc : 1 * 1 ≤ p * z := Int.mul_le_mul hp (by omega) (by omega) (by omega)
  have h0 := Int.ediv_nonneg he (show 0 ≤ p * z by omega)
  have h1 : 0 ≤ e / (p * z) * p := Int.mul_nonneg h0 (by omega)
  have h2 : e / (p * z) * p ≤ e / (p * z) * (p * z) := Int.mul_le_mul_of_nonneg_left (by have : p * 1 ≤ p * z := Int.mul_le_mul_of_nonneg_left (by omega) (by omega); omega) h0
  have h3 := Int.ediv_mul_le e (show p * z ≠ 0 by omega)
  omega

theorem hasValue_yes (b n cap : Nat) (zs : List Int) (v : Int) (w : World) (h : Stk w b zs) (hn : n = zs.length) (hv : okL zs = true) (hx : 0 ≤ v ∧ v < szL zs) :
    Calls Tryz.prog 69 #[.slice (some ⟨b, 0, none⟩) n cap, .int .i64 v] w fun e w' => e = .returned (.bool true) ∧ Below w.heap.size w w' := by
  have hX := hid (size_any b n cap zs hn hv w h)
  clear h hn hv
  have d0 : decide (0 ≤ v) = true := by simp; omega
  have d1 : decide (v < szL zs) = true := by simp; omega
  go_enter Tryz.func69, Tryz.ntmps69
  go_wp2_with (go_at_call 92; refine hX.out.mono ?_; rintro e w' ⟨rfl, hB⟩)
  go_ret
  exact ⟨rfl, hB⟩
theorem hasValue_no (b n cap : Nat) (zs : List Int) (v : Int) (w : World) (h : Stk w b zs) (hn : n = zs.length) (hv : okL zs = true) (hx : ¬ (0 ≤ v ∧ v < szL zs)) :
    Calls Tryz.prog 69 #[.slice (some ⟨b, 0, none⟩) n cap, .int .i64 v] w fun e w' => e = .returned (.bool false) ∧ Below w.heap.size w w' := by
  have hX := hid (size_any b n cap zs hn hv w h)
  clear h hn hv
  by_cases h0 : 0 ≤ v
  · have d0 : decide (0 ≤ v) = true := by simp; omega
    have d1 : decide (v < szL zs) = false := by simp; omega
    have d2 : szL zs ≤ v := by omega
    clear hx
    go_enter Tryz.func69, Tryz.ntmps69
    go_wp2_with (go_at_call 92; refine hX.out.mono ?_; rintro e w' ⟨rfl, hB⟩)
    go_ret
    exact ⟨rfl, hB⟩
  · have d0 : decide (0 ≤ v) = false := by simp; omega
    clear hx
    go_enter Tryz.func69, Tryz.ntmps69
    go_wp2_with fail
    go_ret
    exact ⟨rfl, Below.refl _ _⟩
end Go.Proofs.YtcanfcpofihoeaaGreatDoor

namespace Go.Proofs.YtcanfcpofihoeaaGreatDoor
open Go.RowKit

def dofR (zs : List Int) (v : Int) : List Int × Int := if okL zs then (if 0 ≤ v ∧ v < szL zs then (dgL zs v, 0) else ([0, 0, 0, 0, 0, 0, 0, 0], 2)) else ([0, 0, 0, 0, 0, 0, 0, 0], 1)
theorem dofR_no {zs : List Int} (v : Int) (h : okL zs = false) : dofR zs v = ([0, 0, 0, 0, 0, 0, 0, 0], 1) := by simp [dofR, h]
theorem dofR_out {zs : List Int} (v : Int) (h : okL zs = true) (hk : ¬ (0 ≤ v ∧ v < szL zs)) : dofR zs v = ([0, 0, 0, 0, 0, 0, 0, 0], 2) := by simp only [dofR, h, if_true, if_neg hk]
theorem dofR_yes {zs : List Int} (v : Int) (h : okL zs = true) (hk : 0 ≤ v ∧ v < szL zs) : dofR zs v = (dgL zs v, 0) := by simp only [dofR, h, if_true, if_pos hk]
theorem digits_any (b n cap : Nat) (zs : List Int) (hn : n = zs.length) (hv : okL zs = true) (v : Int) (h0 : 0 ≤ v) (h2 : v ≤ 1000000000000) (w : World) (hS : Stk w b zs) :
    Calls Tryz.prog 36 #[.slice (some ⟨b, 0, none⟩) n cap, .int .i64 v] w fun e W' => e = .returned (.agg #[.int .u8 (dg (dgL zs v) 0), .int .u8 (dg (dgL zs v) 1), .int .u8 (dg (dgL zs v) 2), .int .u8 (dg (dgL zs v) 3), .int .u8 (dg (dgL zs v) 4), .int .u8 (dg (dgL zs v) 5), .int .u8 (dg (dgL zs v) 6), .int .u8 (dg (dgL zs v) 7)]) ∧ Below w.heap.size w W' := by
  obtain ⟨_, h8, hin, _, _⟩ := okL_out hv
  exact callsIn_wide.1 (digits_in Fence.wide 8 trivial trivial trivial rfl (by omega) b n cap zs hn (by omega) (by rw [hn]; exact hin) v h0 h2 w hS)

end Go.Proofs.YtcanfcpofihoeaaGreatDoor

namespace Go.Proofs.YtcanfcpofihoeaaGreatDoor
open Go.RowKit
end Go.Proofs.YtcanfcpofihoeaaGreatDoor

namespace Go.Proofs.YtcanfcpofihoeaaGreatDoor
open Go.RowKit Go.Shelf
set_option linter.unusedVariables false
set_option linter.unusedSimpArgs false
def ds8 (zs : List Int) (v : Int) : List Int := [dg (dgL zs v) 0, dg (dgL zs v) 1, dg (dgL zs v) 2, dg (dgL zs v) 3, dg (dgL zs v) 4, dg (dgL zs v) 5, dg (dgL zs v) 6, dg (dgL zs v) 7]
theorem ds8_oct (zs : List Int) (v : Int) (hz : inB zs zs.length) : Oct (dg (dgL zs v) 0) (dg (dgL zs v) 1) (dg (dgL zs v) 2) (dg (dgL zs v) 3) (dg (dgL zs v) 4) (dg (dgL zs v) 5) (dg (dgL zs v) 6) (dg (dgL zs v) 7) := by
  have key : ∀ k, k < 8 → 0 ≤ dg (dgL zs v) k ∧ dg (dgL zs v) k ≤ 255 := fun k hk => by
    have := dgL_bd zs v hz k hk
    unfold dg
    omega
  exact ⟨key 0 (by omega), key 1 (by omega), key 2 (by omega), key 3 (by omega), key 4 (by omega), key 5 (by omega), key 6 (by omega), key 7 (by omega)⟩
theorem txD_le (zs : List Int) {d0 d1 d2 d3 d4 d5 d6 d7 : Int} (ho : Oct d0 d1 d2 d3 d4 d5 d6 d7) : (txD zs [d0, d1, d2, d3, d4, d5, d6, d7]).length ≤ 100 := by
  cases hv : okV zs [d0, d1, d2, d3, d4, d5, d6, d7] with
  | false => rw [txD_no hv]; simp
  | true =>
    rw [txD_yes hv]
    obtain ⟨hv1, hv2⟩ := okV_out hv
    obtain ⟨h1n, h8, hin, _, _⟩ := okL_out hv1
    have hlt := okD_lt hv2 h8 (fun j hj => (oct_bd ho j hj).1)
    have hll : (List.take zs.length [d0, d1, d2, d3, d4, d5, d6, d7]).length = zs.length := by simp; omega
    have := txT_len (List.take zs.length [d0, d1, d2, d3, d4, d5, d6, d7]) (wdD zs) 2 (fun k hk => by
      rw [hll] at hk
      have a := hin k hk; have b := hlt k hk; have c := oct_bd ho k (by omega)
      have e : ug (List.take zs.length [d0, d1, d2, d3, d4, d5, d6, d7]) k = ([d0, d1, d2, d3, d4, d5, d6, d7] : List Int)[k]?.getD 0 := ug_take _ _ _ hk
      unfold txP
      rw [padZ_len, e]
      have q := itoa2 (([d0, d1, d2, d3, d4, d5, d6, d7] : List Int)[k]?.getD 0) (by omega); have r := wdD_le zs k a
      omega)
    rw [hll] at this
    omega
def lgP (zs : List Int) (js : List (Int × Int)) (k : Nat) : List UInt8 := Lib.itoa (rd js k) ++ [32] ++ txD zs (ds8 zs (rv js k)) ++ [10]
def lgA (zs : List Int) (js : List (Int × Int)) (k : Nat) : List UInt8 := ((List.range k).map (lgP zs js)).flatten
theorem lgA_zero (zs : List Int) (js : List (Int × Int)) : lgA zs js 0 = [] := rfl
theorem lgA_succ (zs : List Int) (js : List (Int × Int)) (k : Nat) : lgA zs js (k + 1) = lgA zs js k ++ lgP zs js k := by simp [lgA, List.range_succ]
def lgR (zs : List Int) (js : List (Int × Int)) : List UInt8 := if okG zs js then lgA zs js js.length else []
theorem lgR_no {zs : List Int} {js : List (Int × Int)} (h : okG zs js = false) : lgR zs js = [] := by simp [lgR, h]
theorem lgR_yes {zs : List Int} {js : List (Int × Int)} (h : okG zs js = true) : lgR zs js = lgA zs js js.length := by simp [lgR, h]
theorem okG_bd {zs : List Int} {js : List (Int × Int)} (h : okG zs js = true) : js.length ≤ 40 ∧ ∀ k, k < js.length → (0 ≤ rd js k ∧ rd js k ≤ 100000) ∧ 0 ≤ rv js k ∧ rv js k ≤ 1000000000000 := by
  obtain ⟨h1, h2, h3, _⟩ := okG_out h
  obtain ⟨_, _, _, _, hz⟩ := okL_out h1
  refine ⟨h2, fun k hk => ?_⟩
  have := okRd_out (h3 k hk)
  omega
theorem lgA_len (zs : List Int) (js : List (Int × Int)) (hz : inB zs zs.length) (h : ∀ k, k < js.length → (0 ≤ rd js k ∧ rd js k ≤ 100000) ∧ 0 ≤ rv js k ∧ rv js k ≤ 1000000000000) : ∀ k, k ≤ js.length → (lgA zs js k).length ≤ 200 * k
  | 0, _ => by simp [lgA]
  | k + 1, hk => by
    have a := lgA_len zs js hz h k (by omega)
    have b := h k (by omega)
    have p := itoa_bigO (rd js k) (by omega); have q := txD_le zs (ds8_oct zs (rv js k) hz)
    rw [lgA_succ]
    simp only [lgP, List.length_append, List.length_cons, List.length_nil]
    unfold ds8
    omega
set_option maxRecDepth 100000 in
set_option maxHeartbeats 4000000 in
theorem implLGT_any (bS nS capS : Nat) (zs : List Int) (hnS : nS = zs.length) (b n cap : Nat) (js : List (Int × Int)) (hn : n = js.length) (w : World) (hS : Stk w bS zs) (hR : Rst w b js) (ht : Lib.TabIs Tryz.prog w "internal/strconv.uint64pow10" .u64 Lib.pow10Tab) (hg : 3 < w.heap.size) :
    Calls Tryz.prog 21 #[.slice (some ⟨bS, 0, none⟩) nS capS, .slice (some ⟨b, 0, none⟩) n cap] w fun e w' => e = .returned (.string ⟨(lgR zs js).toArray⟩) ∧ Below w.heap.size w w' := by
  have HV := hid (implValidLog_any bS nS capS zs hnS b n cap js hn w hS hR)
  have HR := hid hR; have HN := hid hn; have HT0 := hid ht; have HG0 := hid hg; have HS := hid hS; have HNS := hid hnS
  clear hR ht hg hS hnS
  cases hv : okG zs js with
  | false =>
    rw [lgR_no hv]
    rw [hv] at HV
    clear hv hn
    go_enter Tryz.func21, Tryz.ntmps21
    go_wp2_with (go_at_call 32; refine HV.out.mono ?_; rintro e w1 ⟨rfl, hB1⟩)
    go_ret
    exact ⟨rfl, hB1⟩
  | true =>
    obtain ⟨h60, hbd⟩ := okG_bd hv
    have HVS := hid (okG_out hv).1
    have HZ := hid (okL_out HVS.out).2.2.1
    have HLEN := hid (lgA_len zs js HZ.out hbd)
    rw [lgR_yes hv, ← hn]
    rw [hv] at HV
    have HBD := hid hbd
    rw [← hn] at h60
    clear hv hbd hn
    go_enter Tryz.func21, Tryz.ntmps21
    go_wp2_with fail
    refine HV.out.mono ?_
    rintro e w1 ⟨rfl, hB1⟩
    have B1 := hid hB1
    have hz1 := hB1.size
    have HTB := hid (tab_belowO HT0.out hB1 HG0.out)
    have HG1 := hid (Nat.lt_of_lt_of_le HG0.out hz1)
    have HP := hid (HR.out.below hB1 HR.out.1)
    have HSP := hid (HS.out.below hB1 HS.out.1)
    have HBN := hid (BuS.new w1)
    have HBW := hid (show Below w1.heap.size w1 (w1.alloc (.cells #[.pointer none, .slice none 0 0] 67)) from (Below.refl _ _).alloc (Nat.le_refl _) _)
    clear hB1
    go_wp2_with fail
    go_loopw [14] (fun i wr => ∃ k : Nat, k ≤ n ∧ i = .int .i64 k ∧ BuS wr w1.heap.size (lgA zs js k) ∧ Below w1.heap.size w1 wr) (fun i _ => n - (intOf i).toNat)
    case atStart => exact ⟨0, by omega, rfl, HBN.out, HBW.out⟩
    case round =>
      obtain ⟨k, hk, rfl, hU, hB⟩ := hrel
      have hzr := hB.size
      by_cases hkn : k < n
      · have sP := HP.out.below hB HP.out.1
        have sS := HSP.out.below hB HSP.out.1
        have hkl : k < js.length := by have := HN.out; omega
        obtain ⟨⟨a1, a2⟩, b1, b2⟩ := HBD.out k hkl
        obtain ⟨x0, x1⟩ := sP.2.1 k hkl
        have HSN0 := lgA_succ zs js k
        have lL := HLEN.out k (by omega)
        have HA := hid (fun W t => dec_i64O (rd js k) (by omega) W t)
        have l1 := itoa_bigO (rd js k) (by omega)
        have HD := hid (fun W h => digits_any bS nS capS zs HNS.out HVS.out (rv js k) (by omega) (by omega) W h)
        have HOC := hid (ds8_oct zs (rv js k) HZ.out)
        have HT0 := fun W h => implDT_any bS nS capS zs _ _ _ _ _ _ _ _ W h HNS.out HOC.out
        have l2 := txD_le zs HOC.out
        unfold lgP ds8 at HSN0
        obtain ⟨p, hp⟩ : ∃ y, rd js k = y := ⟨_, rfl⟩
        obtain ⟨q, hq⟩ : ∃ y, rv js k = y := ⟨_, rfl⟩
        rw [hp] at x0 HA l1 HSN0
        rw [hq] at x1 HD HT0 l2 HSN0
        obtain ⟨e0, he0⟩ : ∃ y, dg (dgL zs q) 0 = y := ⟨_, rfl⟩
        obtain ⟨e1, he1⟩ : ∃ y, dg (dgL zs q) 1 = y := ⟨_, rfl⟩
        obtain ⟨e2, he2⟩ : ∃ y, dg (dgL zs q) 2 = y := ⟨_, rfl⟩
        obtain ⟨e3, he3⟩ : ∃ y, dg (dgL zs q) 3 = y := ⟨_, rfl⟩
        obtain ⟨e4, he4⟩ : ∃ y, dg (dgL zs q) 4 = y := ⟨_, rfl⟩
        obtain ⟨e5, he5⟩ : ∃ y, dg (dgL zs q) 5 = y := ⟨_, rfl⟩
        obtain ⟨e6, he6⟩ : ∃ y, dg (dgL zs q) 6 = y := ⟨_, rfl⟩
        obtain ⟨e7, he7⟩ : ∃ y, dg (dgL zs q) 7 = y := ⟨_, rfl⟩
        rw [he0, he1, he2, he3, he4, he5, he6, he7] at HD HT0 l2 HSN0
        obtain ⟨A, hA⟩ : ∃ y, Lib.itoa p = y := ⟨_, rfl⟩
        obtain ⟨C, hC⟩ : ∃ y, txD zs [e0, e1, e2, e3, e4, e5, e6, e7] = y := ⟨_, rfl⟩
        rw [hA] at HA l1 HSN0
        rw [hC] at HT0 l2 HSN0
        have HT := hid HT0
        obtain ⟨L, hL⟩ : ∃ y, lgA zs js k = y := ⟨_, rfl⟩
        rw [hL] at hU lL HSN0
        have HW0 := fun W h => write_any w1.heap.size L (A ++ [32] ++ C ++ [10]) W h (by simp; omega)
        rw [← app4] at HW0
        have HW := hid HW0
        have HSN := hid HSN0
        have s1 : ¬ (9223372036854775807 < A.length + 1) := by omega
        have s2 : ¬ (9223372036854775807 < A.length + 1 + C.length) := by omega
        have s3 : ¬ (9223372036854775807 < A.length + 1 + C.length + 1) := by omega
        have k0 : (0 : Int) ≤ (k : Int) := by omega
        have k1 : (k : Int) < (n : Int) := by omega
        have w1' : IntKind.i64.wrap ((k : Int) + 1) = (k : Int) + 1 := IntWalk.i64_in _ (by omega)
        have rP := Row.new wr 44 [.int .i64 p, .int .i64 q]
        have bB : Below w1.heap.size w1 (wr.alloc (.cells #[.int .i64 p, .int .i64 q] 44)) := hB.alloc hB.size _
        have hO : BuS (wr.alloc (.cells #[.int .i64 p, .int .i64 q] 44)) w1.heap.size L := hU.below ((Below.refl _ _).alloc (Nat.le_refl _) _) hU.1
        replace sS : Stk (wr.alloc (.cells #[.int .i64 p, .int .i64 q] 44)) bS zs := sS.below ((Below.refl _ _).alloc (Nat.le_refl _) _) sS.1
        have GNE := hid (show wr.heap.size ≠ w1.heap.size from fun e => by have := hU.1; omega)
        clear hp hq hA hC HSN0 l1 l2 hU hB sP lL hL HW0 HT0 he0 he1 he2 he3 he4 he5 he6 he7
        go_wp2_with fail
        clear x0 x1
        refine wp_region_held (S := fun W' : World => Row W' wr.heap.size 44 [.int .i64 p, .int .i64 q]) (by kernel_rfl) ?_
        change wpAnyH _ _ _ _ _ _ _ _ (World.drew _)
        obtain ⟨W0, hW0⟩ : ∃ X, X = World.drew (wr.alloc (.cells #[.int .i64 p, .int .i64 q] 44)) := ⟨_, rfl⟩
        have hD0 : Below (wr.alloc (.cells #[.int .i64 p, .int .i64 q] 44)).heap.size (wr.alloc (.cells #[.int .i64 p, .int .i64 q] 44)) W0 := by rw [hW0]; exact (Below.refl _ _).drew
        replace rP := rP.below hD0 rP.lt
        replace hO := hO.below hD0 hO.1
        replace sS := sS.below hD0 sS.1
        have bW0 := bB.trans (hD0.mono bB.size)
        have bR : Below W0.heap.size W0 W0 := Below.refl _ _
        rw [← hW0]
        clear hW0 hD0
        have l_rP := rP.lt
        have l_hO := hO.1
        have l_sS := sS.1
        have hS0 : (fun W' : World => Row W' wr.heap.size 44 [.int .i64 p, .int .i64 q]) W0 := rP
        refine wpAnyH_takeD (some 18) (i := 0) (v := ?_) rfl rfl (by kernel_rfl) (by kernel_rfl) (by kernel_rfl) (fun _ _ _ h => h) (.inl ⟨by kernel_rfl, ?_⟩) hS0 ?_
        rotate_left
        · intro w' hw'; have hrow0 := hw'; have e0x0 := Row.cell hrow0 0; have e0x1 := Row.cell hrow0 1; simp only [List.getElem?_cons_zero, List.getElem?_cons_succ] at e0x0 e0x1; clear hrow0; clear hw'; go_simp; try with_reducible rfl
        try simp only [Act.put, List.setIfInBounds_toArray, List.set_cons_zero, List.set_cons_succ]
        refine wpAnyH_takeD (some 19) (i := 1) (v := ?_) rfl rfl (by kernel_rfl) (by kernel_rfl) (by kernel_rfl) (fun _ _ _ h => h) (.inl ⟨by kernel_rfl, ?_⟩) hS0 ?_
        rotate_left
        · intro w' hw'; have hrow0 := hw'; have e0x0 := Row.cell hrow0 0; have e0x1 := Row.cell hrow0 1; simp only [List.getElem?_cons_zero, List.getElem?_cons_succ] at e0x0 e0x1; clear hrow0; clear hw'; go_simp; try with_reducible rfl
        try simp only [Act.put, List.setIfInBounds_toArray, List.set_cons_zero, List.set_cons_succ]
        refine wpAnyH_takeD (some 22) (i := 4) (v := ?_) rfl rfl (by kernel_rfl) (by kernel_rfl) (by kernel_rfl) (fun _ _ _ h => h) (.inl ⟨by kernel_rfl, ?_⟩) hS0 ?_
        rotate_left
        · intro w' hw'; go_simp; try with_reducible rfl
        try simp only [Act.put, List.setIfInBounds_toArray, List.set_cons_zero, List.set_cons_succ]
        refine wpAnyH_takeD (some 23) (i := 5) (v := ?_) rfl rfl (by kernel_rfl) (by kernel_rfl) (by kernel_rfl) (fun _ _ _ h => h) (.inl ⟨by kernel_rfl, ?_⟩) hS0 ?_
        rotate_left
        · intro w' hw'; go_simp; try with_reducible rfl
        try simp only [Act.put, List.setIfInBounds_toArray, List.set_cons_zero, List.set_cons_succ]
        refine wpAnyH_takeD (some 24) (i := 6) (v := ?_) rfl rfl (by kernel_rfl) (by kernel_rfl) (by kernel_rfl) (fun _ _ _ h => h) (.inl ⟨by kernel_rfl, ?_⟩) hS0 ?_
        rotate_left
        · intro w' hw'; have hrow0 := hw'; have e0x0 := Row.cell hrow0 0; have e0x1 := Row.cell hrow0 1; simp only [List.getElem?_cons_zero, List.getElem?_cons_succ] at e0x0 e0x1; clear hrow0; clear hw'; go_simp; try with_reducible rfl
        try simp only [Act.put, List.setIfInBounds_toArray, List.set_cons_zero, List.set_cons_succ]
        refine wpAnyH_takeD (some 25) (i := 7) (v := ?_) rfl rfl (by kernel_rfl) (by kernel_rfl) (by kernel_rfl) (fun _ _ _ h => h) (.inl ⟨by kernel_rfl, ?_⟩) hS0 ?_
        rotate_left
        · intro w' hw'; have hrow0 := hw'; have e0x0 := Row.cell hrow0 0; have e0x1 := Row.cell hrow0 1; simp only [List.getElem?_cons_zero, List.getElem?_cons_succ] at e0x0 e0x1; clear hrow0; clear hw'; go_simp; try with_reducible rfl
        try simp only [Act.put, List.setIfInBounds_toArray, List.set_cons_zero, List.set_cons_succ]
        refine wpAnyH_all (rs := [2]) (by kernel_rfl) (by simp) ?_
        intro i hi; simp only [List.mem_cons, List.not_mem_nil, or_false] at hi
        subst hi
        refine wpOp_step rfl (fun K hK => ?_)
        go_simp
        with_reducible refine (HA.out W0 (tab_belowO HTB.out (bW0.trans (bR.mono bW0.size)) HG1.out)).mono ?_
        rintro e v1 ⟨rfl, hB1⟩
        replace rP := rP.below hB1 rP.lt
        replace hO := hO.below hB1 hO.1
        replace sS := sS.below hB1 sS.1
        replace bR := bR.trans (hB1.mono bR.size)
        have hS1 : (fun W' : World => Row W' wr.heap.size 44 [.int .i64 p, .int .i64 q]) v1 := rP
        refine hK _ _ ⟨hS1, ?_⟩
        try simp only [Act.put, List.setIfInBounds_toArray, List.set_cons_zero, List.set_cons_succ]
        clear hB1 hK K hS0
        refine wpAnyH_takeD (some 21) (i := 3) (v := ?_) rfl rfl (by kernel_rfl) (by kernel_rfl) (by kernel_rfl) (fun _ _ _ h => h) (.inl ⟨by kernel_rfl, ?_⟩) hS1 ?_
        rotate_left
        · intro w' hw'; go_simp; try with_reducible rfl
        try simp only [Act.put, List.setIfInBounds_toArray, List.set_cons_zero, List.set_cons_succ]
        refine wpAnyH_all (rs := [8]) (by kernel_rfl) (by simp) ?_
        intro i hi; simp only [List.mem_cons, List.not_mem_nil, or_false] at hi
        subst hi
        refine wpOp_step rfl (fun K hK => ?_)
        go_simp
        with_reducible refine (HD.out v1 sS).mono ?_
        rintro e v2 ⟨rfl, hB2⟩
        replace rP := rP.below hB2 rP.lt
        replace hO := hO.below hB2 hO.1
        replace sS := sS.below hB2 sS.1
        replace bR := bR.trans (hB2.mono bR.size)
        have hS2 : (fun W' : World => Row W' wr.heap.size 44 [.int .i64 p, .int .i64 q]) v2 := rP
        refine hK _ _ ⟨hS2, ?_⟩
        try simp only [Act.put, List.setIfInBounds_toArray, List.set_cons_zero, List.set_cons_succ]
        clear hB2 hK K hS1
        refine wpAnyH_all (rs := [9]) (by kernel_rfl) (by simp) ?_
        intro i hi; simp only [List.mem_cons, List.not_mem_nil, or_false] at hi
        subst hi
        refine wpOp_step rfl (fun K hK => ?_)
        go_simp
        with_reducible refine (HT.out v2 sS).mono ?_
        rintro e v3 ⟨rfl, hB3⟩
        replace rP := rP.below hB3 rP.lt
        replace hO := hO.below hB3 hO.1
        replace sS := sS.below hB3 sS.1
        replace bR := bR.trans (hB3.mono bR.size)
        have hS3 : (fun W' : World => Row W' wr.heap.size 44 [.int .i64 p, .int .i64 q]) v3 := rP
        refine hK _ _ ⟨hS3, ?_⟩
        try simp only [Act.put, List.setIfInBounds_toArray, List.set_cons_zero, List.set_cons_succ]
        clear hB3 hK K hS2
        refine wpAnyH_takeD (some 28) (i := 10) (v := ?_) rfl rfl (by kernel_rfl) (by kernel_rfl) (by kernel_rfl) (fun _ _ _ h => h) (.inl ⟨by kernel_rfl, ?_⟩) hS3 ?_
        rotate_left
        · intro w' hw'; go_simp; try with_reducible rfl
        try simp only [Act.put, List.setIfInBounds_toArray, List.set_cons_zero, List.set_cons_succ]
        refine wpAnyH_takeD (some 29) (i := 11) (v := ?_) rfl rfl (by kernel_rfl) (by kernel_rfl) (by kernel_rfl) (fun _ _ _ h => h) (.inl ⟨by kernel_rfl, ?_⟩) hS3 ?_
        rotate_left
        · intro w' hw'; go_simp; try with_reducible rfl
        try simp only [Act.put, List.setIfInBounds_toArray, List.set_cons_zero, List.set_cons_succ]
        refine wpAnyH_all (rs := [12]) (by kernel_rfl) (by simp) ?_
        intro i hi; simp only [List.mem_cons, List.not_mem_nil, or_false] at hi
        subst hi
        refine wpOp_step rfl (fun K hK => ?_)
        go_simp
        with_reducible refine (HW.out v3 hO).mono ?_
        rintro e w7 ⟨rfl, hU, hB7, hK7⟩
        have r7 := row_others rP hK7 GNE.out (by decide)
        have bel := hid (show Below w1.heap.size w1 w7 from (bW0.trans (bR.mono bW0.size)).trans hB7)
        have OU := hid hU
        have hS7 : (fun W' : World => Row W' wr.heap.size 44 [.int .i64 p, .int .i64 q]) w7 := r7
        refine hK _ _ ⟨hS7, ?_⟩
        try simp only [Act.put, List.setIfInBounds_toArray, List.set_cons_zero, List.set_cons_succ]
        clear hK K hU hB7 hK7 rP hO sS bR
        refine wpAnyH_done (by kernel_rfl) ?_ _
        go_wp2_with fail
        go_roundw
        case rel => exact ⟨k + 1, by omega, by go_num, by rw [HSN.out]; exact OU.out, bel.out⟩
        case measure => simp [intOf]; omega
      · obtain rfl : k = n := by omega
        have k1 : ¬ (k : Int) < (k : Int) := by omega
        have HJ := hid (bstring_any w1.heap.size (lgA zs js k) wr hU)
        have BB := hid hB
        clear hU hB
        go_wp2_with (go_at_call 37; refine HJ.out.mono ?_; rintro e w9 ⟨rfl, hB9⟩)
        go_ret
        exact ⟨rfl, B1.out.trans ((BB.out.trans hB9).mono hz1)⟩
end Go.Proofs.YtcanfcpofihoeaaGreatDoor

namespace Go.Proofs.YtcanfcpofihoeaaGreatDoor
open Go.RowKit
set_option linter.unusedVariables false
set_option linter.unusedSimpArgs false
theorem szL_pos (zs : List Int) (k : Nat) (hk : k ≤ zs.length) (h : inB zs zs.length) : 1 ≤ szL (zs.take k) := (szL_bd zs k hk (fun j hj => h j (by omega))).1
theorem valL_lt' (zs ds : List Int) (h8 : zs.length ≤ 8) (hi : inB zs zs.length) (hl : ltTo zs ds zs.length) : ∀ k, k ≤ zs.length → 0 ≤ valL zs ds k ∧ valL zs ds k < szL (zs.take k)
  | 0, _ => ⟨Int.le_refl _, by rw [List.take_zero]; show (0 : Int) < 1; omega⟩
  | k + 1, hk => by
    have ih := valL_lt' zs ds h8 hi hl k (by omega)
    have a := hl k (by omega)
    have p := szL_pos zs k (by omega) hi
    rw [szL_take zs k (by omega)]
    show 0 ≤ valL zs ds k + ds[k]?.getD 0 * szL (zs.take k) ∧ valL zs ds k + ds[k]?.getD 0 * szL (zs.take k) < _
    obtain ⟨P, hP⟩ : ∃ P, szL (zs.take k) = P := ⟨_, rfl⟩
    obtain ⟨d, hd⟩ : ∃ d, ds[k]?.getD 0 = d := ⟨_, rfl⟩
    obtain ⟨z, hz⟩ : ∃ z, zs[k]?.getD 0 = z := ⟨_, rfl⟩
    rw [hP] at ih p ⊢
    rw [hd, hz] at a
    rw [hd, hz]
    have m1 : 0 ≤ d * P := Int.mul_nonneg a.1 (by omega)
    have m2 : (d + 1) * P ≤ z * P := Int.mul_le_mul_of_nonneg_right (by omega) (by omega)
    rw [Int.add_mul, Int.one_mul] at m2
    rw [Int.mul_comm P z]
    omega
theorem valL_digit (zs ds : List Int) (h8 : zs.length ≤ 8) (hi : inB zs zs.length) (hl : ltTo zs ds zs.length) (k : Nat) (hk : k < zs.length) : ∀ m, k + 1 ≤ m → m ≤ zs.length → valL zs ds m / szL (zs.take k) % zs[k]?.getD 0 = ds[k]?.getD 0 ∧ ∃ R, szL (zs.take m) = szL (zs.take k) * (zs[k]?.getD 0 * R) := by
  intro m
  induction m with
  | zero => intro h; omega
  | succ m ih =>
    intro h1 h2
    have p := szL_pos zs k (by omega) hi
    have z2 := hi k hk
    by_cases e : m = k
    · subst e
      have b := valL_lt' zs ds h8 hi hl m (by omega)
      have a := hl m hk
      refine ⟨?_, 1, by rw [szL_take zs m hk, Int.mul_one]⟩
      show (valL zs ds m + ds[m]?.getD 0 * szL (zs.take m)) / szL (zs.take m) % zs[m]?.getD 0 = ds[m]?.getD 0
      rw [Int.add_mul_ediv_right _ _ (by omega), Int.ediv_eq_zero_of_lt b.1 b.2, Int.zero_add, Int.emod_eq_of_lt a.1 a.2]
    · obtain ⟨e1, R, e2⟩ := ih (by omega) (by omega)
      refine ⟨?_, R * zs[m]?.getD 0, by rw [szL_take zs m (by omega), e2, Int.mul_assoc, Int.mul_assoc]⟩
      show (valL zs ds m + ds[m]?.getD 0 * szL (zs.take m)) / szL (zs.take k) % zs[k]?.getD 0 = ds[k]?.getD 0
      rw [e2, show ds[m]?.getD 0 * (szL (zs.take k) * (zs[k]?.getD 0 * R)) = (zs[k]?.getD 0 * (R * ds[m]?.getD 0)) * szL (zs.take k) by
        rw [Int.mul_comm (ds[m]?.getD 0), Int.mul_assoc, Int.mul_comm (szL (zs.take k)), Int.mul_assoc (zs[k]?.getD 0) R]]
      rw [Int.add_mul_ediv_right _ _ (by omega), Int.add_mul_emod_self_left]
      exact e1
/-- valid digits are those of their value -/
theorem dgL_val (zs ds : List Int) (h : okV zs ds = true) (h0 : ∀ j, j < 8 → 0 ≤ ds[j]?.getD 0) (hl : ds.length = 8) : dgL zs (valL zs ds zs.length) = ds := by
  obtain ⟨h1, h2⟩ := okV_out h
  obtain ⟨_, h8, hi, _, _⟩ := okL_out h1
  apply List.ext_getElem?
  intro j
  by_cases hj : j < 8
  · have e1 : (dgL zs (valL zs ds zs.length))[j]? = some ((dgL zs (valL zs ds zs.length))[j]?.getD 0) := by rw [List.getElem?_eq_getElem (by rw [dgL_len]; exact hj)]; rfl
    have e2 : ds[j]? = some (ds[j]?.getD 0) := by rw [List.getElem?_eq_getElem (by omega)]; rfl
    rw [e1, e2, dgL_get zs _ j hj]
    split
    · rw [(valL_digit zs ds h8 hi (okD_lt h2 h8 h0) j (by assumption) zs.length (by omega) (Nat.le_refl _)).1]
    · rw [(okD_out h2 j hj).2 (by omega)]
  · rw [List.getElem?_eq_none (by rw [dgL_len]; omega), List.getElem?_eq_none (by omega)]
theorem emod_step (v P z : Int) (hP : 1 ≤ P) (hz : 1 ≤ z) : v % P + v / P % z * P = v % (P * z) := by
  have e1 := Int.emod_add_mul_ediv v P
  have e2 := Int.emod_add_mul_ediv (v / P) z
  have a1 := Int.emod_nonneg v (show P ≠ 0 by omega)
  have a2 := Int.emod_lt_of_pos v (show 0 < P by omega)
  have b1 := Int.emod_nonneg (v / P) (show z ≠ 0 by omega)
  have b2 := Int.emod_lt_of_pos (v / P) (show 0 < z by omega)
  obtain ⟨r, hr⟩ : ∃ r, v % P = r := ⟨_, rfl⟩
  obtain ⟨q, hq⟩ : ∃ q, v / P = q := ⟨_, rfl⟩
  rw [hr, hq] at e1
  rw [hr] at a1 a2
  rw [hq] at e2 b1 b2
  rw [hr, hq]
  obtain ⟨s, hs⟩ : ∃ s, q % z = s := ⟨_, rfl⟩
  obtain ⟨t, ht⟩ : ∃ t, q / z = t := ⟨_, rfl⟩
  rw [hs, ht] at e2
  rw [hs] at b1 b2
  rw [hs]
  have e3 : v = (r + s * P) + P * z * t := by
    rw [← e1, ← e2, Int.mul_add, Int.mul_comm P s, Int.mul_assoc, Int.add_assoc]
  have m1 : 0 ≤ s * P := Int.mul_nonneg b1 (by omega)
  have m2 : (s + 1) * P ≤ z * P := Int.mul_le_mul_of_nonneg_right (by omega) (by omega)
  rw [Int.add_mul, Int.one_mul, Int.mul_comm z P] at m2
  rw [e3, Int.add_mul_emod_self_left, Int.emod_eq_of_lt (by omega) (by omega)]
theorem valL_dgL (zs : List Int) (v : Int) (h8 : zs.length ≤ 8) (hi : inB zs zs.length) : ∀ k, k ≤ zs.length → valL zs (dgL zs v) k = v % szL (zs.take k)
  | 0, _ => by
    rw [List.take_zero]
    show (0 : Int) = v % 1
    omega
  | k + 1, hk => by
    have ih := valL_dgL zs v h8 hi k (by omega)
    show valL zs (dgL zs v) k + (dgL zs v)[k]?.getD 0 * szL (zs.take k) = _
    rw [ih, dgL_get zs v k (by omega), if_pos (by omega), szL_take zs k (by omega)]
    exact emod_step v _ _ (szL_pos zs k (by omega) hi) (by have := hi k (by omega); omega)
theorem valL_of (zs : List Int) (v : Int) (h : okL zs = true) (hv : 0 ≤ v ∧ v < szL zs) : valL zs (dgL zs v) zs.length = v := by
  obtain ⟨_, h8, hi, _, _⟩ := okL_out h
  rw [valL_dgL zs v h8 hi zs.length (Nat.le_refl _), List.take_length, Int.emod_eq_of_lt hv.1 hv.2]
theorem okV_dgL (zs : List Int) (v : Int) (h : okL zs = true) : okV zs (dgL zs v) = true := by
  obtain ⟨_, h8, hi, _, _⟩ := okL_out h
  rw [okV, h, dgL_okD zs v hi]; rfl
end Go.Proofs.YtcanfcpofihoeaaGreatDoor

namespace Go.Proofs.YtcanfcpofihoeaaGreatDoor
set_option linter.unusedVariables false
set_option linter.unusedSimpArgs false
def hdA (a : List UInt8) : List (List UInt8) → List (List UInt8)
  | [] => [a]
  | p :: ps => (a ++ p) :: ps
def spl (c : UInt8) : List UInt8 → List (List UInt8)
  | [] => [[]]
  | x :: r => if x = c then [] :: spl c r else hdA [x] (spl c r)
theorem hdA_nil {l : List (List UInt8)} (h : l ≠ []) : hdA [] l = l := by cases l with | nil => exact absurd rfl h | cons p ps => rfl
theorem hdA_app (a b : List UInt8) {l : List (List UInt8)} (h : l ≠ []) : hdA a (hdA b l) = hdA (a ++ b) l := by
  cases l with | nil => exact absurd rfl h | cons p ps => simp [hdA]
theorem hdA_ne (a : List UInt8) (l : List (List UInt8)) : hdA a l ≠ [] := by cases l <;> simp [hdA]
theorem spl_ne (c : UInt8) : ∀ l, spl c l ≠ []
  | [] => by simp [spl]
  | x :: r => by
    unfold spl
    split
    · simp
    · exact hdA_ne _ _
theorem spl_app (c : UInt8) (l : List UInt8) : ∀ p : List UInt8, c ∉ p → spl c (p ++ c :: l) = p :: spl c l
  | [], _ => by simp [spl]
  | x :: r, h => by
    have hx : ¬ x = c := fun e => h (by simp [e])
    have hr : c ∉ r := fun e => h (by simp [e])
    rw [List.cons_append, spl, if_neg hx, spl_app c l r hr]
    rfl
theorem spl_one (c : UInt8) : ∀ p : List UInt8, c ∉ p → spl c p = [p]
  | [], _ => rfl
  | x :: r, h => by
    have hx : ¬ x = c := fun e => h (by simp [e])
    have hr : c ∉ r := fun e => h (by simp [e])
    rw [spl, if_neg hx, spl_one c r hr]
    rfl
theorem join_two (c : UInt8) (p q : List UInt8) (r : List (List UInt8)) : Lib.join (p :: q :: r) [c] = p ++ c :: Lib.join (q :: r) [c] := by
  rw [Lib.join_cons, Lib.join_cons]
  simp [Lib.joinTail]
theorem spl_join (c : UInt8) : ∀ ps : List (List UInt8), ps ≠ [] → (∀ p ∈ ps, c ∉ p) → spl c (Lib.join ps [c]) = ps
  | [], h, _ => absurd rfl h
  | [p], _, h => by rw [Lib.join_one]; exact spl_one c p (h p (by simp))
  | p :: q :: r, _, h => by
    rw [join_two, spl_app c _ p (h p (by simp)), spl_join c (q :: r) (by simp) (fun x hx => h x (List.mem_cons_of_mem _ hx))]
theorem join_hdA (c x : UInt8) (l : List (List UInt8)) (h : l ≠ []) : Lib.join (hdA [x] l) [c] = x :: Lib.join l [c] := by
  cases l with
  | nil => exact absurd rfl h
  | cons p ps => simp [hdA, Lib.join_cons]
theorem join_spl (c : UInt8) : ∀ l, Lib.join (spl c l) [c] = l
  | [] => by simp [spl, Lib.join_one]
  | x :: r => by
    unfold spl
    split
    · rename_i h
      subst h
      obtain ⟨p, ps, e⟩ : ∃ p ps, spl x r = p :: ps := by
        cases hh : spl x r with
        | nil => exact absurd hh (spl_ne x r)
        | cons p ps => exact ⟨p, ps, rfl⟩
      have := join_spl x r
      rw [e] at this ⊢
      rw [join_two, this]; rfl
    · rw [join_hdA c x _ (spl_ne c r), join_spl c r]
theorem indexByte_app (c : UInt8) (l : List UInt8) : ∀ p : List UInt8, c ∉ p → Lib.indexByte (p ++ c :: l) c = p.length
  | [], _ => by simp [Lib.indexByte]
  | x :: r, h => by
    have hx : ¬ x = c := fun e => h (by simp [e])
    have hr : c ∉ r := fun e => h (by simp [e])
    have ih := indexByte_app c l r hr
    rw [List.cons_append, Lib.indexByte]
    simp only [beq_iff_eq, hx, if_false, ih, List.length_cons]
    split <;> omega
theorem indexByte_no (c : UInt8) : ∀ p : List UInt8, c ∉ p → Lib.indexByte p c = -1
  | [], _ => by simp [Lib.indexByte]
  | x :: r, h => by
    have hx : ¬ x = c := fun e => h (by simp [e])
    have hr : c ∉ r := fun e => h (by simp [e])
    rw [Lib.indexByte]
    simp [hx, indexByte_no c r hr]
theorem splitK_join (c : UInt8) : ∀ (k : Nat) (ps : List (List UInt8)), ps ≠ [] → (∀ p ∈ ps, c ∉ p) → ps.length ≤ k + 1 → Lib.splitK [c] 0 k (Lib.join ps [c]) = ps
  | _, [], h, _, _ => absurd rfl h
  | 0, [p], _, h, _ => by rw [Lib.join_one]; rfl
  | k + 1, [p], _, h, _ => by
    rw [Lib.join_one, Lib.splitK, Lib.index_one, indexByte_no c p (h p (by simp))]
    rfl
  | 0, p :: q :: r, _, _, hl => by simp at hl
  | k + 1, p :: q :: r, _, h, hl => by
    rw [join_two, Lib.splitK, Lib.index_one, indexByte_app c _ p (h p (by simp))]
    have e1 : ((p.length : Int) == -1) = false := by simp
    rw [e1]
    simp only [Bool.false_eq_true, if_false, Int.toNat_natCast, Nat.add_zero, List.length_cons, List.length_nil]
    rw [show p ++ c :: Lib.join (q :: r) [c] = (p ++ [c]) ++ Lib.join (q :: r) [c] by simp]
    rw [List.drop_left' (by simp), show (p ++ [c] ++ Lib.join (q :: r) [c]).take p.length = p by rw [List.append_assoc, List.take_left' rfl]]
    rw [splitK_join c k (q :: r) (by simp) (fun x hx => h x (List.mem_cons_of_mem _ hx)) (by simp at hl ⊢; omega)]
/-- numbers as they are read: what digits spell -/
def digB (x : UInt8) : Bool := decide (48 ≤ x.toNat) && decide (x.toNat ≤ 57)
def numV (l : List UInt8) : Nat := l.foldl (fun n x => 10 * n + (x.toNat - 48)) 0
theorem numV_snoc (l : List UInt8) (x : UInt8) : numV (l ++ [x]) = 10 * numV l + (x.toNat - 48) := by simp [numV]
/-- the text of a number as it is written -/
def canB (l : List UInt8) : Bool := decide (1 ≤ l.length) && decide (l.length ≤ 9) && (decide (l.length = 1) || decide (l[0]? ≠ some 48)) && l.all digB
theorem dig_byte {x : UInt8} (h : digB x = true) : UInt8.ofNat (48 + (x.toNat - 48)) = x ∧ x.toNat - 48 < 10 := by
  simp [digB] at h
  have h2 : UInt8.toNat x < 256 := UInt8.toNat_lt x
  refine ⟨?_, by omega⟩
  apply UInt8.toNat_inj.1
  rw [UInt8.toNat_ofNat']
  omega
theorem snocInd {P : List UInt8 → Prop} (h0 : P []) (h1 : ∀ l x, P l → P (l ++ [x])) : ∀ l, P l := by
  have : ∀ (n : Nat) (l : List UInt8), l.length = n → P l := by
    intro n
    induction n with
    | zero => intro l hl; rw [List.length_eq_zero_iff.1 hl]; exact h0
    | succ n ih =>
      intro l hl
      have hne : l ≠ [] := by intro e; subst e; simp at hl
      rw [← List.dropLast_concat_getLast hne]
      exact h1 _ _ (ih _ (by simp [hl]))
  exact fun l => this _ l rfl
theorem numV_pos : ∀ (l : List UInt8), l ≠ [] → l[0]? ≠ some 48 → l.all digB = true → 1 ≤ numV l := fun l => by
  refine snocInd (P := fun l => l ≠ [] → l[0]? ≠ some 48 → l.all digB = true → 1 ≤ numV l) (fun h => absurd rfl h) (fun l x ih => ?_) l
  · intro _ h0 hd
    rw [numV_snoc]
    simp only [List.all_append, Bool.and_eq_true] at hd
    by_cases hl : l = []
    · subst hl
      simp at h0 hd
      have := hd
      simp [digB] at this
      have : x.toNat ≠ 48 := fun e => h0 (UInt8.toNat_inj.1 (by rw [e]; rfl))
      simp [numV]; omega
    · have : 1 ≤ numV l := ih hl (by rw [List.getElem?_append_left (by cases l with | nil => exact absurd rfl hl | cons => simp)] at h0; exact h0) hd.1
      omega
theorem dec_numV : ∀ (l : List UInt8), l ≠ [] → (l.length = 1 ∨ l[0]? ≠ some 48) → l.all digB = true → Lib.decDigits (numV l) = l := fun l => by
  refine snocInd (P := fun l => l ≠ [] → (l.length = 1 ∨ l[0]? ≠ some 48) → l.all digB = true → Lib.decDigits (numV l) = l) (fun h => absurd rfl h) (fun l x ih => ?_) l
  · intro _ h0 hd
    rw [numV_snoc]
    simp only [List.all_append, Bool.and_eq_true] at hd
    have hx : digB x = true := by simpa using hd.2
    obtain ⟨e, e2⟩ := dig_byte hx
    by_cases hl : l = []
    · subst hl
      rw [Lib.decDigits, dif_pos (by simp [numV]; omega)]
      simp [numV, e]
    · have h1 : l[0]? ≠ some 48 := by
        rcases h0 with h0 | h0
        · simp at h0; exact absurd h0 hl
        · rw [List.getElem?_append_left (by cases l with | nil => exact absurd rfl hl | cons => simp)] at h0; exact h0
      have hp := numV_pos l hl h1 hd.1
      rw [Lib.decDigits, dif_neg (by omega), show (10 * numV l + (x.toNat - 48)) / 10 = numV l by omega, show (10 * numV l + (x.toNat - 48)) % 10 = x.toNat - 48 by omega, e, ih hl (.inr h1) hd.1]
theorem ofNat_dig (d : Nat) (h : d < 10) : (UInt8.ofNat (48 + d)).toNat = 48 + d := by rw [UInt8.toNat_ofNat']; omega
theorem can_dec : ∀ (k n : Nat), n < 10 ^ k → 1 ≤ k → (Lib.decDigits n).length ≤ k ∧ 1 ≤ (Lib.decDigits n).length ∧ (Lib.decDigits n).all digB = true ∧ numV (Lib.decDigits n) = n ∧ ((Lib.decDigits n).length = 1 ∨ (Lib.decDigits n)[0]? ≠ some 48)
  | 0, n, h, h1 => by omega
  | k + 1, n, h, _ => by
    rw [Lib.decDigits]
    by_cases hn : n < 10
    · rw [dif_pos hn]
      have := ofNat_dig n hn
      refine ⟨by simp, by simp, by simp only [List.all_cons, List.all_nil, digB, this]; simp; omega, by simp only [numV, List.foldl_cons, List.foldl_nil, this]; omega, .inl rfl⟩
    · rw [dif_neg hn]
      have hk : 1 ≤ k := by
        by_cases hk : k = 0
        · subst hk; simp at h; omega
        · omega
      obtain ⟨h1, h2, h3, h4, h5⟩ := can_dec k (n / 10) (by rw [Nat.pow_succ] at h; omega) hk
      have e := ofNat_dig (n % 10) (by omega)
      refine ⟨by simp; omega, by simp, by simp only [List.all_append, h3, List.all_cons, List.all_nil, digB, e]; simp; omega, by rw [numV_snoc, h4, e]; omega, .inr ?_⟩
      rw [List.getElem?_append_left (by omega)]
      rcases h5 with h5 | h5
      · intro h0
        have h6 : Lib.decDigits (n / 10) = [48] := by
          match hh : Lib.decDigits (n / 10), h5, h0 with
          | [x], _, h0 => simp at h0; rw [h0]
        rw [h6] at h4
        simp [numV] at h4
        omega
      · exact h5
theorem can_of (n : Nat) (h : n < 1000000000) : canB (Lib.decDigits n) = true ∧ numV (Lib.decDigits n) = n := by
  obtain ⟨h1, h2, h3, h4, h5⟩ := can_dec 9 n (by simpa using h) (by omega)
  refine ⟨?_, h4⟩
  unfold canB
  simp only [Bool.and_eq_true, Bool.or_eq_true, decide_eq_true_eq]
  exact ⟨⟨⟨h2, h1⟩, h5⟩, h3⟩
theorem of_can {l : List UInt8} (h : canB l = true) : Lib.decDigits (numV l) = l := by
  unfold canB at h
  simp only [Bool.and_eq_true, Bool.or_eq_true, decide_eq_true_eq] at h
  exact dec_numV l (by intro e; subst e; simp at h) h.1.2 h.2
/-- digits that are read by ParseUint at eight bits -/
theorem parseM_num (M : Nat) (hM : M ≤ 255) : ∀ (l : List UInt8) (acc : Nat), acc ≤ M → l.all digB = true → l.foldl (fun n x => 10 * n + (x.toNat - 48)) acc ≤ M → Lib.parseUintM M acc l = .ok (l.foldl (fun n x => 10 * n + (x.toNat - 48)) acc)
  | [], acc, _, _, _ => rfl
  | x :: r, acc, ha, hd, hle => by
    simp only [List.all_cons, Bool.and_eq_true] at hd
    have hx := hd.1
    simp [digB] at hx
    have mono : ∀ (r : List UInt8) (a : Nat), a ≤ r.foldl (fun n x => 10 * n + (x.toNat - 48)) a := by
      intro r
      induction r with
      | nil => intro a; exact Nat.le_refl _
      | cons y r ih => intro a; exact Nat.le_trans (by omega) (ih (10 * a + (y.toNat - 48)))
    have h2 := mono r (10 * acc + (x.toNat - 48))
    simp only [List.foldl_cons] at hle ⊢
    rw [Lib.parseUintM, if_pos (by omega), if_neg (by omega), if_neg (by omega), show acc * 10 + (x.toNat - 48) = 10 * acc + (x.toNat - 48) by omega]
    exact parseM_num M hM r _ (by omega) hd.2 hle
theorem parse8_num {l : List UInt8} (h : l ≠ []) (hd : l.all digB = true) (hle : numV l ≤ 255) : Lib.parseUintB 8 l = .ok (numV l) := by
  unfold Lib.parseUintB
  rw [if_neg h]
  exact parseM_num 255 (Nat.le_refl _) l 0 (by omega) hd hle
end Go.Proofs.YtcanfcpofihoeaaGreatDoor

namespace Go.Proofs.YtcanfcpofihoeaaGreatDoor
open Go.RowKit
set_option linter.unusedVariables false
set_option linter.unusedSimpArgs false
def bas (ps : List (List UInt8)) : List ByteArray := ps.map fun p => ⟨p.toArray⟩
theorem bas_len (ps : List (List UInt8)) : (bas ps).length = ps.length := by simp [bas]
def piece (l : List UInt8) (b k : Nat) : List UInt8 := (l.take k).drop b
theorem ext_data (t : ByteArray) (b k : Nat) : (t.extract b k).data.toList = piece t.data.toList b k := by
  simp [piece, ByteArray.data_extract, List.extract_eq_take_drop, List.drop_take]
theorem piece_snoc {l : List UInt8} {b k : Nat} {u : UInt8} (hb : b ≤ k) (h : l[k]? = some u) : piece l b (k + 1) = piece l b k ++ [u] := by
  have hk : k < l.length := by
    by_cases c : k < l.length
    · exact c
    · rw [List.getElem?_eq_none (by omega)] at h; cases h
  have e : l[k] = u := by rw [List.getElem?_eq_getElem hk] at h; exact Option.some.inj h
  unfold piece
  rw [List.take_succ_eq_append_getElem hk, List.drop_append_of_le_length (by simp; omega), e]
theorem drop_at {l : List UInt8} {k : Nat} {u : UInt8} (h : l[k]? = some u) : l.drop k = u :: l.drop (k + 1) := by
  have hk : k < l.length := by
    by_cases c : k < l.length
    · exact c
    · rw [List.getElem?_eq_none (by omega)] at h; cases h
  rw [List.drop_eq_getElem_cons hk]
  rw [List.getElem?_eq_getElem hk] at h
  rw [Option.some.inj h]
def spAt (c : UInt8) (l : List UInt8) (ps : List (List UInt8)) (b k : Nat) : Prop := spl c l = ps ++ hdA (piece l b k) (spl c (l.drop k))
theorem spAt_zero (c : UInt8) (l : List UInt8) : spAt c l [] 0 0 := by simp [spAt, piece, hdA_nil (spl_ne c l)]
theorem spAt_hit {c : UInt8} {l : List UInt8} {ps : List (List UInt8)} {b k : Nat} (h : spAt c l ps b k) (hk : l[k]? = some c) : spAt c l (ps ++ [piece l b k]) (k + 1) (k + 1) := by
  unfold spAt at *
  rw [h, drop_at hk, spl, if_pos rfl, show piece l (k + 1) (k + 1) = [] by simp [piece], hdA_nil (spl_ne _ _)]
  simp [hdA]
theorem spAt_miss {c u : UInt8} {l : List UInt8} {ps : List (List UInt8)} {b k : Nat} (h : spAt c l ps b k) (hb : b ≤ k) (hk : l[k]? = some u) (hu : ¬ u = c) : spAt c l ps b (k + 1) := by
  unfold spAt at *
  rw [h, drop_at hk, spl, if_neg hu, hdA_app _ _ (spl_ne _ _), piece_snoc hb hk]
theorem spAt_end {c : UInt8} {l : List UInt8} {ps : List (List UInt8)} {b : Nat} (h : spAt c l ps b l.length) : spl c l = ps ++ [piece l b l.length] := by
  unfold spAt at h
  rw [h]; simp [spl, hdA]
theorem idx_str (t : ByteArray) (k : Nat) (hk : k < t.size) (ty : TypeId) (hty : Tryz.prog.underlying ty = some .string) : ∃ u : UInt8, t.data.toList[k]? = some u ∧ ∀ w, (Instr.index ty (.string t) (.int .i64 (k : Int))).run Tryz.prog w = .ok (.int .u8 (u.toNat : Int)) w := by
  have hk2 : k < t.data.toList.length := by rw [Array.length_toList]; exact hk
  refine ⟨t.data.toList[k], List.getElem?_eq_getElem hk2, fun w => ?_⟩
  rw [run_index_string w ty t .i64 k hty, dif_pos ⟨by omega, by omega⟩]
  rfl
/-- a list of strings of its own -/
def OwnS' (w : World) (base : Nat) (v : Value) (ss : List ByteArray) : Prop := w.ownsRow base 9 1 v ss.length (ss.map Value.string)
set_option maxRecDepth 100000 in
set_option maxHeartbeats 2000000 in
theorem l01Split_any (t : ByteArray) (ht : t.size ≤ 1048576) (c : UInt8) (ci : Int) (hci : ci = (c.toNat : Int)) (w : World) : Calls Tryz.prog 13 #[.string t, .int .u8 ci] w fun e w' => ∃ v, e = .returned v ∧ OwnS' w' w.heap.size v (bas (spl c t.data.toList)) ∧ Below w.heap.size w w' := by
  obtain ⟨i0, hi0, iz0, iz1, iz2⟩ := info_parts Tryz.infoStr
  have HIX := hid (fun k hk => idx_str t k hk 9 rfl)
  have hsz : t.size = t.data.toList.length := by rw [Array.length_toList]; rfl
  obtain ⟨l, hl⟩ : ∃ l, t.data.toList = l := ⟨_, rfl⟩
  rw [hl] at HIX hsz ⊢
  have HL := hid hl; have HCI := hid hci
  obtain ⟨n, hn⟩ : ∃ n, t.size = n := ⟨_, rfl⟩
  have HN := hid hn
  have HX := hid (fun b k => ext_data t b k)
  rw [hl] at HX
  rw [hn] at ht hsz HIX
  have HSZ := hid hsz
  clear hl hsz hci
  go_enter Tryz.func13, Tryz.ntmps13
  go_wp2_with fail
  go_loopw [5, 6, 7] (fun s5 s6 i wr => ∃ (b k : Nat) (ps : List (List UInt8)) (v : Value), b ≤ k ∧ k ≤ n ∧ ps.length ≤ k ∧ s6 = .int .i64 b ∧ i = .int .i64 k ∧ v = s5 ∧ spAt c l ps b k ∧ wr.ownsRow w.heap.size 9 1 v ps.length ((bas ps).map Value.string) ∧ Below w.heap.size w wr) (fun _ _ i _ => n - (intOf i).toNat)
  case atStart => exact ⟨0, 0, [], _, Nat.le_refl _, Nat.zero_le _, by simp, rfl, rfl, rfl, spAt_zero c l, World.ownsRow_made _ _ 0 (Nat.le_refl _) (by decide) rfl, (Below.refl _ _).alloc (Nat.le_refl _) _⟩
  case round =>
    obtain ⟨b, k, ps, v, hbk, hk, hpl, rfl, rfl, rfl, hS, hO, hB⟩ := hrel
    have b0 : (0 : Int) ≤ (b : Int) := by omega
    have k0 : (0 : Int) ≤ (k : Int) := by omega
    have bk : (b : Int) ≤ (k : Int) := by omega
    have kn : (k : Int) ≤ (n : Int) := by omega
    by_cases hkn : k < n
    · have k1 : (k : Int) < (n : Int) := by omega
      have w1' : IntKind.i64.wrap ((k : Int) + 1) = (k : Int) + 1 := IntWalk.i64_in _ (by omega)
      obtain ⟨u, hu, hix⟩ := HIX.out k hkn
      by_cases huc : u = c
      · subst huc
        have HS := hid (spAt_hit hS hu)
        have hix2 : ∀ w, (Instr.index 9 (.string t) (.int .i64 (k : Int))).run Tryz.prog w = .ok (.int .u8 ci) w := fun w => by rw [hix w, HCI.out]
        obtain ⟨P, hP⟩ : ∃ P, t.extract b k = P := ⟨_, rfl⟩
        have HPD := hid (show P.data.toList = piece l b k by rw [← hP]; exact HX.out b k)
        have HLEN := hid (show ps.length ≤ 1048576 by omega)
        have HO4 := hid (hO.alloc (.cells #[.string P] 9))
        have nc := hid (show ∀ j u, ([.string P] : List Value)[j]? = some u → (wr.alloc (.cells #[.string P] 9)).cell? ((⟨wr.heap.size, 0, none⟩ : Addr).add j) = some u from fun j u hj => by
          have h := (Row.new wr 9 [.string P]).cell j
          rw [show (⟨wr.heap.size, 0, none⟩ : Addr).add j = ⟨wr.heap.size, j, none⟩ from by unfold Addr.add; split <;> simp_all]
          exact h.trans hj)
        have HONE := hid (show ∀ u ∈ ([.string P] : List Value), u.oneCell' = true from by intro u hu; simp at hu; subst hu; rfl)
        have HB7 := hid (show Below w.heap.size w (wr.alloc (.cells #[.string P] 9)) from hB.alloc hB.size _)
        have HBW := hid (show w.heap.size ≤ (wr.alloc (.cells #[.string P] 9)).heap.size by simp; have := hB.size; omega)
        have HPL := hid hpl
        clear hS hu hix hO hB hpl
        go_wp2_with (at_builtin; refine wpList_append_own _ rfl _ _ 34 rfl w.heap.size 9 i0 (.string ⟨#[]⟩) 1 16 Tryz.underlying34 hi0 iz0 iz1 iz2 rfl (by decide) _ _ _ rfl HO4.out ⟨wr.heap.size, 0, none⟩ 1 1 ([.string P] : List Value) rfl rfl nc.out HONE.out (by have := HLEN.out; unfold maxLen; omega) (by have := HLEN.out; omega) HBW.out ?_; rintro v' w7 hown' hgrow -; have OWN := hid hown'; have GRW := hid hgrow; clear hown' hgrow)
        have bel := HB7.out.grown GRW.out HBW.out (fun kk e => by have := (HO4.out.lt kk e).1; omega)
        have OW := OWN.out
        rw [show (bas ps).map Value.string ++ [.string P] = (bas (ps ++ [P.data.toList])).map Value.string from by simp [bas]] at OW
        have HOW := hid OW
        have HBE := hid bel
        clear bel OW
        rw [HPD.out] at HOW
        go_wp2_with fail
        go_roundw
        case rel => exact ⟨k + 1, k + 1, ps ++ [piece l b k], v', Nat.le_refl _, by omega, by have := HPL.out; simp; omega, by go_num, by go_num, rfl, HS.out, by rw [List.length_append]; exact HOW.out, HBE.out⟩
        case measure => simp [intOf]; omega
      · have HS := hid (spAt_miss hS hbk hu huc)
        have hne : ¬ (u.toNat : Int) = ci := by
          rw [HCI.out]
          intro e
          exact huc (UInt8.toNat_inj.1 (by omega))
        obtain ⟨x, hx⟩ : ∃ x : Int, (u.toNat : Int) = x := ⟨_, rfl⟩
        rw [hx] at hix hne
        have HO := hid hO; have HB := hid hB; have HPL := hid hpl
        clear hS hu hO hB hpl hx huc
        go_wp2_with fail
        go_roundw
        case rel => exact ⟨b, k + 1, ps, v, by omega, by omega, by have := HPL.out; omega, rfl, by go_num, rfl, HS.out, HO.out, HB.out⟩
        case measure => simp [intOf]; omega
    · obtain rfl : k = n := by omega
      have HS := hid (spAt_end (by rw [← HSZ.out]; exact hS))
      obtain ⟨P, hP⟩ : ∃ P, t.extract b k = P := ⟨_, rfl⟩
      have HPD := hid (show P.data.toList = piece l b k by rw [← hP]; exact HX.out b k)
      have HLEN := hid (show ps.length ≤ 1048576 by omega)
      have HO4 := hid (hO.alloc (.cells #[.string P] 9))
      have nc := hid (show ∀ j u, ([.string P] : List Value)[j]? = some u → (wr.alloc (.cells #[.string P] 9)).cell? ((⟨wr.heap.size, 0, none⟩ : Addr).add j) = some u from fun j u hj => by
        have h := (Row.new wr 9 [.string P]).cell j
        rw [show (⟨wr.heap.size, 0, none⟩ : Addr).add j = ⟨wr.heap.size, j, none⟩ from by unfold Addr.add; split <;> simp_all]
        exact h.trans hj)
      have HONE := hid (show ∀ u ∈ ([.string P] : List Value), u.oneCell' = true from by intro u hu; simp at hu; subst hu; rfl)
      have HB7 := hid (show Below w.heap.size w (wr.alloc (.cells #[.string P] 9)) from hB.alloc hB.size _)
      have HBW := hid (show w.heap.size ≤ (wr.alloc (.cells #[.string P] 9)).heap.size by simp; have := hB.size; omega)
      clear hS hO hB hpl
      go_wp2_with (at_builtin; refine wpList_append_own _ rfl _ _ 34 rfl w.heap.size 9 i0 (.string ⟨#[]⟩) 1 16 Tryz.underlying34 hi0 iz0 iz1 iz2 rfl (by decide) _ _ _ rfl HO4.out ⟨wr.heap.size, 0, none⟩ 1 1 ([.string P] : List Value) rfl rfl nc.out HONE.out (by have := HLEN.out; unfold maxLen; omega) (by have := HLEN.out; omega) HBW.out ?_; rintro v' w7 hown' hgrow -; have OWN := hid hown'; have GRW := hid hgrow; clear hown' hgrow)
      have bel := HB7.out.grown GRW.out HBW.out (fun kk e => by have := (HO4.out.lt kk e).1; omega)
      have OW := OWN.out
      rw [show (bas ps).map Value.string ++ [.string P] = (bas (ps ++ [P.data.toList])).map Value.string from by simp [bas]] at OW
      have HOW := hid OW
      have HBE := hid bel
      clear bel OW
      go_ret
      refine ⟨v', rfl, ?_, HBE.out⟩
      unfold OwnS'
      rw [HS.out, bas_len, List.length_append]
      have := HOW.out
      rw [HPD.out] at this
      rw [← HSZ.out]
      exact this
end Go.Proofs.YtcanfcpofihoeaaGreatDoor

namespace Go.Proofs.YtcanfcpofihoeaaGreatDoor
open Go.RowKit
set_option linter.unusedVariables false
set_option linter.unusedSimpArgs false
/-- the number and whether there is one -/
def numR (l : List UInt8) : Int × Bool := if canB l then ((numV l : Int), true) else (0, false)
theorem numR_no {l : List UInt8} (h : canB l = false) : numR l = (0, false) := by simp [numR, h]
theorem numR_yes {l : List UInt8} (h : canB l = true) : numR l = ((numV l : Int), true) := by simp [numR, h]
theorem numV_lt : ∀ (l : List UInt8), l.all digB = true → numV l < 10 ^ l.length := fun l => by
  refine snocInd (P := fun l => l.all digB = true → numV l < 10 ^ l.length) (fun _ => by simp [numV]) (fun l x ih => ?_) l
  intro hd
  simp only [List.all_append, Bool.and_eq_true] at hd
  have hx : digB x = true := by simpa using hd.2
  have := ih hd.1
  have h2 := (dig_byte hx).2
  rw [numV_snoc, List.length_append, List.length_singleton, Nat.pow_succ]
  omega
theorem take_snoc {l : List UInt8} {k : Nat} {u : UInt8} (h : l[k]? = some u) : l.take (k + 1) = l.take k ++ [u] := by
  have := piece_snoc (b := 0) (Nat.zero_le k) h
  simpa [piece] using this
theorem can_bad {l : List UInt8} {k : Nat} {u : UInt8} (h : l[k]? = some u) (hu : digB u = false) : canB l = false := by
  have : l.all digB = false := by
    rw [List.all_eq_false]
    exact ⟨u, List.mem_of_getElem? h, by simp [hu]⟩
  simp [canB, this]
set_option maxRecDepth 100000 in
set_option maxHeartbeats 2000000 in
theorem l01Number_any (t : ByteArray) (ht : t.size ≤ 1048576) (w : World) : Calls Tryz.prog 14 #[.string t] w fun e w' => e = .returned (.tuple #[.int .i64 (numR t.data.toList).1, .bool (numR t.data.toList).2]) ∧ w' = w := by
  have HIX := hid (fun k hk => idx_str t k hk 9 rfl)
  have hsz : t.size = t.data.toList.length := by rw [Array.length_toList]; rfl
  have hdt : t.toList = t.data.toList := Lib.toList_data t
  obtain ⟨l, hl⟩ : ∃ l, t.data.toList = l := ⟨_, rfl⟩
  rw [hl] at HIX hsz hdt ⊢
  obtain ⟨n, hn⟩ : ∃ n, t.size = n := ⟨_, rfl⟩
  rw [hn] at ht hsz HIX
  have HSZ := hid hsz; have HN := hid hn
  have HDT := hid hdt
  clear hl
  by_cases h0 : n = 0
  · have hnil : l = [] := List.length_eq_zero_iff.1 (by omega)
    have he1 : t.toList.isEmpty = true := by rw [hdt, hnil]; rfl
    have he2 : t.toList = [] := by rw [hdt, hnil]
    rw [numR_no (by rw [hnil]; rfl)]
    clear hdt hnil hsz hn
    go_enter Tryz.func14, Tryz.ntmps14
    go_wp2_with fail
    go_ret2
    exact ⟨rfl, rfl⟩
  have hne : l ≠ [] := fun e => h0 (by rw [hsz, e]; rfl)
  have he2 : ¬ t.toList = [] := by rw [hdt]; exact hne
  have he1 : t.toList.isEmpty = false := by rw [hdt]; cases l with | nil => exact absurd rfl hne | cons => rfl
  by_cases h9 : 9 < n
  · have h9' : (9 : Int) < (t.size : Int) := by omega
    rw [numR_no (by simp [canB]; omega)]
    clear hdt hsz
    go_enter Tryz.func14, Tryz.ntmps14
    go_wp2_with fail
    go_ret2
    exact ⟨rfl, rfl⟩
  have h9' : ¬ (9 : Int) < (n : Int) := by omega
  obtain ⟨u0, hu0, hix0⟩ := HIX.out 0 (by omega)
  have hix0' : ∀ w, (Instr.index 9 (.string t) (.int .i64 0)).run Tryz.prog w = .ok (.int .u8 (u0.toNat : Int)) w := hix0
  obtain ⟨x0, hx0⟩ : ∃ x : Int, (u0.toNat : Int) = x := ⟨_, rfl⟩
  rw [hx0] at hix0'
  by_cases hz : x0 = 48 ∧ 1 < n
  · have hx48 : x0 = 48 := hz.1
    have hn1 : (1 : Int) < (n : Int) := by omega
    have hu48 : u0 = 48 := UInt8.toNat_inj.1 (by have : (u0.toNat : Int) = 48 := by rw [hx0, hx48]
                                                 have h2 : u0.toNat = 48 := by omega
                                                 rw [h2]; rfl)
    rw [numR_no (by rw [hu48] at hu0; unfold canB; rw [hu0]; simp; omega)]
    clear hdt hsz hz hu0 hix0 hx0
    go_enter Tryz.func14, Tryz.ntmps14
    go_wp2_with fail
    go_ret2
    exact ⟨rfl, rfl⟩
  have HC1 := hid (show l.length = 1 ∨ l[0]? ≠ some 48 from by
    by_cases h1 : n = 1
    · exact .inl (by omega)
    · refine .inr (fun e => hz ⟨?_, by omega⟩)
      rw [hu0] at e
      injection e with e
      rw [← hx0, e]; rfl)
  have HNE := hid hne; have H9 := hid (show n ≤ 9 by omega)
  have hz0 : x0 = 48 → (n : Int) ≤ 1 := fun h => by
    by_cases c : 1 < n
    · exact absurd ⟨h, c⟩ hz
    · omega
  clear hz hu0 hix0 hx0 hdt hsz
  by_cases hx48 : x0 = 48
  · have hn1 : ¬ (1 : Int) < (n : Int) := by have := hz0 hx48; omega
    clear hz0
    go_enter Tryz.func14, Tryz.ntmps14
    go_wp2_with fail
    go_loopw [4, 5] (fun s4 i wr => ∃ (k : Nat) (N : Int), k ≤ n ∧ i = .int .i64 k ∧ .int .i64 N = s4 ∧ N = (numV (l.take k) : Int) ∧ (l.take k).all digB = true ∧ wr = w) (fun _ i _ => n - (intOf i).toNat)
    case atStart => exact ⟨0, 0, Nat.zero_le _, rfl, rfl, rfl, rfl, rfl⟩
    case round =>
      obtain ⟨k, N, hk, rfl, rfl, hNV, hD, rfl⟩ := hrel
      have hnl := numV_lt (l.take k) hD
      by_cases hkn : k < n
      · have k1 : (k : Int) < (n : Int) := by omega
        have k0 : (0 : Int) ≤ (k : Int) := by omega
        have w1' : IntKind.i64.wrap ((k : Int) + 1) = (k : Int) + 1 := IntWalk.i64_in _ (by omega)
        obtain ⟨u, hu, hix⟩ := HIX.out k hkn
        obtain ⟨x, hx⟩ : ∃ x : Int, (u.toNat : Int) = x := ⟨_, rfl⟩
        rw [hx] at hix
        by_cases hlo : x < 48
        · have HB := hid (numR_no (can_bad hu (by simp [digB]; omega)))
          clear hu hNV hD hnl hx
          go_wp2_with fail
          go_ret2
          exact ⟨by rw [HB.out]; rfl, rfl⟩
        · by_cases hhi : 57 < x
          · have HB := hid (numR_no (can_bad hu (by simp [digB]; omega)))
            clear hu hNV hD hnl hx
            go_wp2_with fail
            go_ret2
            exact ⟨by rw [HB.out]; rfl, rfl⟩
          · have hp : 10 ^ (l.take k).length ≤ 10 ^ 9 := Nat.pow_le_pow_right (by omega) (by have := H9.out; rw [List.length_take]; omega)
            have nb : 0 ≤ N ∧ N < 1000000000 := by omega
            have y1 : IntKind.i64.wrap (10 * N) = 10 * N := IntWalk.i64_in _ (by omega)
            have y2 : IntKind.u8.wrap (x - 48) = x - 48 := by simp only [IntKind.wrap, IntKind.signed, IntKind.bits]; simp; omega
            have y3 : IntKind.i64.wrap (x - 48) = x - 48 := IntWalk.i64_in _ (by omega)
            have y4 : IntKind.i64.wrap (10 * N + (x - 48)) = 10 * N + (x - 48) := IntWalk.i64_in _ (by omega)
            have HV := hid (show 10 * N + (x - 48) = (numV (l.take (k + 1)) : Int) by rw [take_snoc hu, numV_snoc, hNV]; omega)
            have HD2 := hid (show (l.take (k + 1)).all digB = true by
              rw [take_snoc hu, List.all_append, hD]
              simp [digB]; omega)
            clear hu hNV hD hnl hx hp nb
            go_wp2_with fail
            go_roundw
            case rel => exact ⟨k + 1, 10 * N + (x - 48), by omega, by go_num, rfl, HV.out, HD2.out, by first | rfl | trivial⟩
            case measure => simp [intOf]; omega
      · obtain rfl : k = n := by omega
        have HT := hid (show l.take k = l from List.take_of_length_le (by have := HSZ.out; omega))
        rw [HT.out] at hNV hD
        have HR := hid (numR_yes (l := l) (by
          unfold canB
          simp only [Bool.and_eq_true, Bool.or_eq_true, decide_eq_true_eq]
          have h1 := HSZ.out; have h2 := H9.out; have h3 := HC1.out
          exact ⟨⟨⟨by omega, by omega⟩, h3⟩, hD⟩))
        have HNV := hid hNV
        clear hNV hD hnl
        go_wp2_with fail
        go_ret2
        exact ⟨by rw [HR.out, ← HNV.out]; rfl, rfl⟩
  · clear hz0
    go_enter Tryz.func14, Tryz.ntmps14
    go_wp2_with fail
    go_loopw [4, 5] (fun s4 i wr => ∃ (k : Nat) (N : Int), k ≤ n ∧ i = .int .i64 k ∧ .int .i64 N = s4 ∧ N = (numV (l.take k) : Int) ∧ (l.take k).all digB = true ∧ wr = w) (fun _ i _ => n - (intOf i).toNat)
    case atStart => exact ⟨0, 0, Nat.zero_le _, rfl, rfl, rfl, rfl, rfl⟩
    case round =>
      obtain ⟨k, N, hk, rfl, rfl, hNV, hD, rfl⟩ := hrel
      have hnl := numV_lt (l.take k) hD
      by_cases hkn : k < n
      · have k1 : (k : Int) < (n : Int) := by omega
        have k0 : (0 : Int) ≤ (k : Int) := by omega
        have w1' : IntKind.i64.wrap ((k : Int) + 1) = (k : Int) + 1 := IntWalk.i64_in _ (by omega)
        obtain ⟨u, hu, hix⟩ := HIX.out k hkn
        obtain ⟨x, hx⟩ : ∃ x : Int, (u.toNat : Int) = x := ⟨_, rfl⟩
        rw [hx] at hix
        by_cases hlo : x < 48
        · have HB := hid (numR_no (can_bad hu (by simp [digB]; omega)))
          clear hu hNV hD hnl hx
          go_wp2_with fail
          go_ret2
          exact ⟨by rw [HB.out]; rfl, rfl⟩
        · by_cases hhi : 57 < x
          · have HB := hid (numR_no (can_bad hu (by simp [digB]; omega)))
            clear hu hNV hD hnl hx
            go_wp2_with fail
            go_ret2
            exact ⟨by rw [HB.out]; rfl, rfl⟩
          · have hp : 10 ^ (l.take k).length ≤ 10 ^ 9 := Nat.pow_le_pow_right (by omega) (by have := H9.out; rw [List.length_take]; omega)
            have nb : 0 ≤ N ∧ N < 1000000000 := by omega
            have y1 : IntKind.i64.wrap (10 * N) = 10 * N := IntWalk.i64_in _ (by omega)
            have y2 : IntKind.u8.wrap (x - 48) = x - 48 := by simp only [IntKind.wrap, IntKind.signed, IntKind.bits]; simp; omega
            have y3 : IntKind.i64.wrap (x - 48) = x - 48 := IntWalk.i64_in _ (by omega)
            have y4 : IntKind.i64.wrap (10 * N + (x - 48)) = 10 * N + (x - 48) := IntWalk.i64_in _ (by omega)
            have HV := hid (show 10 * N + (x - 48) = (numV (l.take (k + 1)) : Int) by rw [take_snoc hu, numV_snoc, hNV]; omega)
            have HD2 := hid (show (l.take (k + 1)).all digB = true by
              rw [take_snoc hu, List.all_append, hD]
              simp [digB]; omega)
            clear hu hNV hD hnl hx hp nb
            go_wp2_with fail
            go_roundw
            case rel => exact ⟨k + 1, 10 * N + (x - 48), by omega, by go_num, rfl, HV.out, HD2.out, by first | rfl | trivial⟩
            case measure => simp [intOf]; omega
      · obtain rfl : k = n := by omega
        have HT := hid (show l.take k = l from List.take_of_length_le (by have := HSZ.out; omega))
        rw [HT.out] at hNV hD
        have HR := hid (numR_yes (l := l) (by
          unfold canB
          simp only [Bool.and_eq_true, Bool.or_eq_true, decide_eq_true_eq]
          have h1 := HSZ.out; have h2 := H9.out; have h3 := HC1.out
          exact ⟨⟨⟨by omega, by omega⟩, h3⟩, hD⟩))
        have HNV := hid hNV
        clear hNV hD hnl
        go_wp2_with fail
        go_ret2
        exact ⟨by rw [HR.out, ← HNV.out]; rfl, rfl⟩
end Go.Proofs.YtcanfcpofihoeaaGreatDoor

namespace Go.Proofs.YtcanfcpofihoeaaGreatDoor
open Go.RowKit
/-- v is a slice of the numbers zs, in a block of its own from base on -/
def OwnB (w : World) (base : Nat) (v : Value) (zs : List Int) : Prop :=
  ∃ a cap, v = .slice a zs.length cap ∧ zs.length ≤ 1099511627776 ∧ (zs = [] ∨ ∃ g rest, a = some ⟨g, 0, none⟩ ∧ base ≤ g ∧ Row w g 5 (zs.map (Value.int .u8) ++ rest))
theorem OwnB.of_owns {w : World} {base n : Nat} {v : Value} {zs : List Int} (h : w.ownsRow base 5 1 v n (zs.map (Value.int .u8))) (hl : zs.length ≤ 1099511627776) : OwnB w base v zs := by
  have hn : n = zs.length := by have := h.1; simpa using this.symm
  rcases h.2 with ⟨rfl, h0⟩ | ⟨g, cap, cur, rfl, h2, h3, h4, h5, h6, h7⟩
  · have : zs = [] := List.length_eq_zero_iff.1 (by omega)
    subst this
    exact ⟨none, 0, rfl, by simp, .inl rfl⟩
  · refine ⟨some ⟨g, 0, none⟩, cap, by rw [hn], hl, .inr ⟨g, cur.toList.drop (n * 1), rfl, h2, ?_⟩⟩
    unfold Row
    rw [h3, ← h7, List.take_append_drop]
theorem OwnB.nil (w : World) (base : Nat) (a : Option Addr) (cap : Nat) : OwnB w base (.slice a 0 cap) [] := ⟨a, cap, rfl, by simp, .inl rfl⟩
theorem OwnB.keep {w w' : World} {base : Nat} {v : Value} {zs : List Int} (h : OwnB w base v zs) (hb : Below w.heap.size w w') : OwnB w' base v zs := by
  obtain ⟨a, cap, h1, h2, h3⟩ := h
  refine ⟨a, cap, h1, h2, ?_⟩
  rcases h3 with h0 | ⟨g, rest, e, hg, hr⟩
  · exact .inl h0
  · exact .inr ⟨g, rest, e, hg, hr.below hb hr.lt⟩
/-- what is written from another base on leaves it, if its block lies below -/
theorem OwnB.low {w w' : World} {base k : Nat} {v : Value} {zs : List Int} (h : OwnB w base v zs) {w2 : World} (hw : Below w.heap.size w w2) (hk : w.heap.size ≤ k) (hb : Below k w2 w') : OwnB w' base v zs := by
  obtain ⟨a, cap, h1, h2, h3⟩ := h
  refine ⟨a, cap, h1, h2, ?_⟩
  rcases h3 with h0 | ⟨g, rest, e, hg, hr⟩
  · exact .inl h0
  · exact .inr ⟨g, rest, e, hg, (hr.below hw hr.lt).below hb (Nat.lt_of_lt_of_le hr.lt hk)⟩
theorem OwnB.cell {w : World} {g : Nat} {zs : List Int} {rest : List Value} (h : Row w g 5 (zs.map (Value.int .u8) ++ rest)) (j : Nat) (hj : j < zs.length) : w.cell? ⟨g, j, none⟩ = some (.int .u8 (zs[j]?.getD 0)) := by
  rw [h.cell, List.getElem?_append_left (by simpa using hj)]
  simp [hj]
set_option maxHeartbeats 1000000 in
theorem eqB_own (b1 b2 : Nat) (v1 v2 : Value) (zs : List Int) (w : World) (h1 : OwnB w b1 v1 zs) (h2 : OwnB w b2 v2 zs) :
    Calls Tryz.prog 8 #[v1, v2] w fun e w' => e = .returned (.bool true) ∧ ∃ d, w' = w.drewN d := by
  obtain ⟨a1, c1, rfl, hl, k1⟩ := h1
  obtain ⟨a2, c2, rfl, _, k2⟩ := h2
  have hne : ((zs.length : Int) != (zs.length : Int)) = false := by simp
  rcases k1 with hz | ⟨g1, r1, rfl, _, R1⟩
  · subst hz
    simp only [List.length_nil] at *
    clear k2 hne
    go_enter Tryz.func8, Tryz.ntmps8
    go_wp2_with fail
    refine wp_loop_rounds 1 ?_
    rw [rounds_succ]
    go_wp2_with fail
    go_ret
    exact ⟨rfl, 0, rfl⟩
  · rcases k2 with hz | ⟨g2, r2, rfl, _, R2⟩
    · subst hz
      simp only [List.length_nil] at *
      clear R1 hne
      go_enter Tryz.func8, Tryz.ntmps8
      go_wp2_with fail
      refine wp_loop_rounds 1 ?_
      rw [rounds_succ]
      go_wp2_with fail
      go_ret
      exact ⟨rfl, 0, rfl⟩
    · have C1 := hid (fun j (hj : j < zs.length) => OwnB.cell R1 j hj)
      have C2 := hid (fun j (hj : j < zs.length) => OwnB.cell R2 j hj)
      obtain ⟨n, hn⟩ : ∃ n, zs.length = n := ⟨_, rfl⟩
      rw [hn] at C1 C2 hl hne ⊢
      clear R1 R2 hn
      go_enter Tryz.func8, Tryz.ntmps8
      go_wp2_with fail
      go_loopw [5] (fun i wr => ∃ k : Nat, k ≤ n ∧ i = .int .i64 k ∧ ∃ d, wr = w.drewN d) (fun i _ => n - (intOf i).toNat)
      case atStart => exact ⟨0, Nat.zero_le _, rfl, 0, rfl⟩
      case round =>
        obtain ⟨k, hk, rfl, d, rfl⟩ := hrel
        by_cases hlt : k < n
        · have hx1 := C1.out k hlt
          have hx2 := C2.out k hlt
          have hlt' : (k : Int) < (n : Int) := by omega
          have hk0 : (0 : Int) ≤ (k : Int) := by omega
          obtain ⟨x, hx⟩ : ∃ x, zs[k]?.getD 0 = x := ⟨_, rfl⟩
          rw [hx] at hx1 hx2
          have hb : (x != x) = false := by simp
          clear hx
          go_wp2_with fail
          go_quiet (fail)
          go_wp2_with fail
          go_roundw
          case rel => exact ⟨k + 1, by omega, by go_num, _, rfl⟩
          case measure => simp [intOf]; omega
        · obtain rfl : k = n := by omega
          go_wp2_with fail
          go_ret
          exact ⟨rfl, d, rfl⟩
def m8 (i : Int) : Int := IntKind.u8.wrap i
/-- the marks that are written -/
def marksB (k0 : Int) (n : Nat) : List Int := (List.range n).map fun (i : Nat) => m8 (k0 + (i : Int))
theorem marksB_len (k0 : Int) (n : Nat) : (marksB k0 n).length = n := by simp [marksB]
theorem marksB_get (k0 : Int) (n j : Nat) (h : j < n) : (marksB k0 n)[j]?.getD 0 = m8 (k0 + (j : Int)) := by simp [marksB, h]
/-- k of n cells are marked -/
def halfB (k0 : Int) (zs : List Int) (k : Nat) : List Int := (marksB k0 k) ++ zs.drop k
theorem halfB_len (k0 : Int) (zs : List Int) (k : Nat) (h : k ≤ zs.length) : (halfB k0 zs k).length = zs.length := by simp [halfB, marksB]; omega
theorem halfB_set (k0 : Int) (zs : List Int) (rest : List Value) (k : Nat) (h : k < zs.length) : (((halfB k0 zs k).map (Value.int .u8)) ++ rest).set k (.int .u8 (m8 (k0 + (k : Int)))) = ((halfB k0 zs (k + 1)).map (Value.int .u8)) ++ rest := by
  have hl := halfB_len k0 zs k (by omega)
  rw [List.set_append_left _ _ (by rw [List.length_map, hl]; exact h)]
  congr 1
  apply List.ext_getElem?
  intro j
  simp only [halfB, marksB, List.getElem?_set, List.getElem?_map, List.length_map, List.length_append, List.length_range, List.length_drop, List.getElem?_append, List.getElem?_drop]
  by_cases hj : k = j
  · subst hj
    simp [h]
    omega
  · rw [if_neg hj]
    by_cases h2 : j < k
    · simp [h2, show j < k + 1 from by omega]
    · simp only [h2, show ¬ j < k + 1 from by omega, if_false]
      rw [show k + (j - k) = k + 1 + (j - (k + 1)) from by omega]
theorem halfB_all (k0 : Int) (zs : List Int) : halfB k0 zs zs.length = marksB k0 zs.length := by simp [halfB]
set_option maxHeartbeats 1000000 in
theorem markB_own (base : Nat) (v : Value) (zs : List Int) (w : World) (h : OwnB w base v zs) (hbase : base ≤ w.heap.size) :
    Calls Tryz.prog 9 #[v, .int .i64 1] w fun e w' => e = .returned (.int .i64 (1 + (zs.length : Int))) ∧ OwnB w' base v (marksB 1 zs.length) ∧ Below base w w' ∧ w'.heap.size = w.heap.size := by
  obtain ⟨a, c, rfl, hl, k1⟩ := h
  rcases k1 with hz | ⟨g, rest, rfl, hg, R⟩
  · subst hz
    simp only [List.length_nil]
    go_enter Tryz.func9, Tryz.ntmps9
    go_wp2_with fail
    refine wp_loop_rounds 1 ?_
    rw [rounds_succ]
    go_wp2_with fail
    go_ret
    exact ⟨rfl, OwnB.nil _ _ _ _, Below.refl _ _, rfl⟩
  · obtain ⟨n, hn⟩ : ∃ n, zs.length = n := ⟨_, rfl⟩
    rw [hn] at hl ⊢
    have HN := hid hn
    have R0 : Row w g 5 ((halfB 1 zs 0).map (Value.int .u8) ++ rest) := by simpa [halfB, marksB] using R
    clear hn R
    go_enter Tryz.func9, Tryz.ntmps9
    go_wp2_with fail
    go_loopw [1, 5] (fun m i wr => ∃ k : Nat, k ≤ n ∧ i = .int .i64 k ∧ m = .int .i64 (1 + (k : Int)) ∧ Row wr g 5 ((halfB 1 zs k).map (Value.int .u8) ++ rest) ∧ Below base w wr ∧ wr.heap.size = w.heap.size) (fun _ i _ => n - (intOf i).toNat)
    case atStart => exact ⟨0, Nat.zero_le _, rfl, rfl, R0, Below.refl _ _, rfl⟩
    case round =>
      clear R0
      obtain ⟨k, hk, rfl, rfl, hrow, hB, hsz⟩ := hrel
      have HSZ := hid hsz
      clear hsz
      by_cases hlt : k < n
      · have hlt' : (k : Int) < (n : Int) := by omega
        have hk0 : (0 : Int) ≤ (k : Int) := by omega
        have HS := hid (halfB_set 1 zs rest k (by rw [HN.out]; exact hlt))
        have hfz := hrow.frozen k
        obtain ⟨old, hold⟩ : ∃ u, wr.cell? ⟨g, k, none⟩ = some u := ⟨_, (hrow.cell k).trans (List.getElem?_eq_getElem (by simp only [List.length_append, List.length_map]; rw [halfB_len _ _ _ (by rw [HN.out]; exact hk), HN.out]; omega))⟩
        have R2 := hrow.set k (.int .u8 (m8 (1 + (k : Int))))
        rw [HS.out] at R2
        have R3 := hid R2
        have B2 := hid (hB.setCell (p := ⟨g, k, none⟩) hg (.int .u8 (m8 (1 + (k : Int)))))
        have t1 : IntKind.u8.wrap (1 + (k : Int)) = m8 (1 + (k : Int)) := rfl
        clear R2 hrow hB
        go_wp2_with fail
        go_roundw
        case rel => exact ⟨k + 1, by omega, by go_num, by first | go_num | (congr 1; done) | (congr 1; omega), R3.out, B2.out, by simpa using HSZ.out⟩
        case measure => simp [intOf]; omega
      · obtain rfl : k = n := by omega
        have R3 := hid hrow
        clear hrow
        go_wp2_with fail
        go_ret
        refine ⟨rfl, ⟨some ⟨g, 0, none⟩, c, by rw [marksB_len], by rw [marksB_len]; exact hl, .inr ⟨g, rest, rfl, hg, ?_⟩⟩, hB, HSZ.out⟩
        have := R3.out
        rw [← HN.out, halfB_all] at this
        rw [← HN.out]
        exact this
theorem row_type {w : World} {g : Nat} {T U : TypeId} {xs ys : List Value} (h : Row w g T xs) (k : Row w g U ys) : T = U := by
  unfold Row at h k
  rw [h] at k
  simp only [Option.some.injEq, Obj.cells.injEq] at k
  exact k.2.1
set_option maxHeartbeats 1000000 in
theorem markB_only (base : Nat) (v : Value) (zs : List Int) (w : World) (h : OwnB w base v zs) (hbase : base ≤ w.heap.size) :
    Calls Tryz.prog 9 #[v, .int .i64 1] w fun e w' => e = .returned (.int .i64 (1 + (zs.length : Int))) ∧ OwnB w' base v (marksB 1 zs.length) ∧ Below base w w' ∧ w'.heap.size = w.heap.size ∧ (∀ q T xs, T ≠ 5 → Row w q T xs → Row w' q T xs) := by
  obtain ⟨a, c, rfl, hl, k1⟩ := h
  rcases k1 with hz | ⟨g, rest, rfl, hg, R⟩
  · subst hz
    simp only [List.length_nil]
    go_enter Tryz.func9, Tryz.ntmps9
    go_wp2_with fail
    refine wp_loop_rounds 1 ?_
    rw [rounds_succ]
    go_wp2_with fail
    go_ret
    exact ⟨rfl, OwnB.nil _ _ _ _, Below.refl _ _, rfl, fun _ _ _ _ h => h⟩
  · obtain ⟨n, hn⟩ : ∃ n, zs.length = n := ⟨_, rfl⟩
    rw [hn] at hl ⊢
    have HN := hid hn
    have NEQ := hid (fun q T xs (hT : T ≠ 5) (hr : Row w q T xs) => show q ≠ g from fun e => by subst e; exact hT (row_type hr R))
    have R0 : Row w g 5 ((halfB 1 zs 0).map (Value.int .u8) ++ rest) := by simpa [halfB, marksB] using R
    clear hn R
    go_enter Tryz.func9, Tryz.ntmps9
    go_wp2_with fail
    go_loopw [1, 5] (fun m i wr => ∃ k : Nat, k ≤ n ∧ i = .int .i64 k ∧ m = .int .i64 (1 + (k : Int)) ∧ Row wr g 5 ((halfB 1 zs k).map (Value.int .u8) ++ rest) ∧ Below base w wr ∧ wr.heap.size = w.heap.size ∧ (∀ q, q ≠ g → wr.heap[q]? = w.heap[q]?)) (fun _ i _ => n - (intOf i).toNat)
    case atStart => exact ⟨0, Nat.zero_le _, rfl, rfl, R0, Below.refl _ _, rfl, fun _ _ => rfl⟩
    case round =>
      clear R0
      obtain ⟨k, hk, rfl, rfl, hrow, hB, hsz, hkk⟩ := hrel
      have HSZ := hid hsz
      have HKK := hid hkk
      clear hsz hkk
      by_cases hlt : k < n
      · have hlt' : (k : Int) < (n : Int) := by omega
        have hk0 : (0 : Int) ≤ (k : Int) := by omega
        have HS := hid (halfB_set 1 zs rest k (by rw [HN.out]; exact hlt))
        have hfz := hrow.frozen k
        obtain ⟨old, hold⟩ : ∃ u, wr.cell? ⟨g, k, none⟩ = some u := ⟨_, (hrow.cell k).trans (List.getElem?_eq_getElem (by simp only [List.length_append, List.length_map]; rw [halfB_len _ _ _ (by rw [HN.out]; exact hk), HN.out]; omega))⟩
        have R2 := hrow.set k (.int .u8 (m8 (1 + (k : Int))))
        rw [HS.out] at R2
        have R3 := hid R2
        have B2 := hid (hB.setCell (p := ⟨g, k, none⟩) hg (.int .u8 (m8 (1 + (k : Int)))))
        have t1 : IntKind.u8.wrap (1 + (k : Int)) = m8 (1 + (k : Int)) := rfl
        clear R2 hrow hB
        go_wp2_with fail
        go_roundw
        case rel => exact ⟨k + 1, by omega, by go_num, by first | go_num | (congr 1; done) | (congr 1; omega), R3.out, B2.out, by simpa using HSZ.out, fun q hq => (Below.heap_setCell wr ⟨g, k, none⟩ _ q (fun e => hq e)).trans (HKK.out q hq)⟩
        case measure => simp [intOf]; omega
      · obtain rfl : k = n := by omega
        have R3 := hid hrow
        clear hrow
        go_wp2_with fail
        go_ret
        refine ⟨rfl, ⟨some ⟨g, 0, none⟩, c, by rw [marksB_len], by rw [marksB_len]; exact hl, .inr ⟨g, rest, rfl, hg, ?_⟩⟩, hB, HSZ.out, fun q T xs hT hr => (HKK.out q (NEQ.out q T xs hT hr)).trans hr⟩
        have := R3.out
        rw [← HN.out, halfB_all] at this
        rw [← HN.out]
        exact this
end Go.Proofs.YtcanfcpofihoeaaGreatDoor

namespace Go.Proofs.YtcanfcpofihoeaaGreatDoor
open Go.RowKit
set_option linter.unusedVariables false
set_option linter.unusedSimpArgs false
theorem spl_sum (c : UInt8) : ∀ l, ((spl c l).map List.length).sum + (spl c l).length = l.length + 1
  | [] => rfl
  | x :: r => by
    have ih := spl_sum c r
    unfold spl
    split
    · simp; omega
    · cases h : spl c r with
      | nil => exact absurd h (spl_ne c r)
      | cons p ps => rw [h] at ih; simp [hdA] at ih ⊢; omega
theorem sum_ge : ∀ (ps : List (List UInt8)), (∀ p ∈ ps, 1 ≤ p.length) → ps.length ≤ (ps.map List.length).sum
  | [], _ => by simp
  | p :: ps, h => by
    have := sum_ge ps (fun q hq => h q (by simp [hq]))
    have := h p (by simp)
    simp; omega
theorem mem_sum : ∀ (ps : List (List UInt8)) (p : List UInt8), p ∈ ps → p.length ≤ (ps.map List.length).sum
  | [], p, h => by simp at h
  | q :: ps, p, h => by
    simp only [List.mem_cons] at h
    rcases h with rfl | h
    · simp
    · have := mem_sum ps p h; simp; omega
theorem spl_mem_len {c : UInt8} {l p : List UInt8} (h : p ∈ spl c l) : p.length ≤ l.length := by
  have a := mem_sum _ p h
  have b := spl_sum c l
  have d : 1 ≤ (spl c l).length := by
    cases hh : spl c l with
    | nil => exact absurd hh (spl_ne c l)
    | cons => simp
  omega
def okW (p : List UInt8) : Bool := canB p && decide (numV p ≤ 100)
def nmL (ps : List (List UInt8)) : List Int := ps.reverse.map fun p => (numV p : Int)
/-- the stack of a text -/
def stkR (l : List UInt8) : Option (List Int) := if (spl 58 l).all okW && okL (nmL (spl 58 l)) then some (nmL (spl 58 l)) else none
theorem nmL_drop {ps : List (List UInt8)} {d : Nat} {p : List UInt8} (h : ps[d]? = some p) : nmL (ps.drop d) = nmL (ps.drop (d + 1)) ++ [(numV p : Int)] := by
  have hd : d < ps.length := by
    by_cases c : d < ps.length
    · exact c
    · rw [List.getElem?_eq_none (by omega)] at h; cases h
  rw [List.drop_eq_getElem_cons hd]
  rw [List.getElem?_eq_getElem hd] at h
  rw [Option.some.inj h]
  simp [nmL]
theorem nmL_len (ps : List (List UInt8)) : (nmL ps).length = ps.length := by simp [nmL]
theorem all_drop {ps : List (List UInt8)} {d : Nat} {p : List UInt8} (h : ps[d]? = some p) (hp : okW p = true) (ha : (ps.drop (d + 1)).all okW = true) : (ps.drop d).all okW = true := by
  have hd : d < ps.length := by
    by_cases c : d < ps.length
    · exact c
    · rw [List.getElem?_eq_none (by omega)] at h; cases h
  rw [List.drop_eq_getElem_cons hd]
  rw [List.getElem?_eq_getElem hd] at h
  rw [Option.some.inj h, List.all_cons, hp, ha]; rfl
theorem stkR_bad {l p : List UInt8} {d : Nat} (h : (spl 58 l)[d]? = some p) (hp : okW p = false) : stkR l = none := by
  have : (spl 58 l).all okW = false := by
    rw [List.all_eq_false]
    exact ⟨p, List.mem_of_getElem? h, by simp [hp]⟩
  simp [stkR, this]
theorem stkR_all {l : List UInt8} (h : (spl 58 l).all okW = true) : stkR l = if okL (nmL (spl 58 l)) then some (nmL (spl 58 l)) else none := by simp [stkR, h]
/-- what l01Stack gives -/
def StG (r : Option (List Int)) (w : World) (e : Ending) (w' : World) : Prop := ∃ v b, e = .returned (.tuple #[v, .bool b]) ∧ Below w.heap.size w w' ∧ ((b = true ∧ ∃ zs, r = some zs ∧ OwnB w' w.heap.size v zs) ∨ (b = false ∧ r = none))
theorem okW_len {ps : List (List UInt8)} (h : ps.all okW = true) : ∀ p ∈ ps, 1 ≤ p.length := fun p hp => by
  have := List.all_eq_true.1 h p hp
  unfold okW canB at this
  simp only [Bool.and_eq_true, decide_eq_true_eq] at this
  exact this.1.1.1.1
theorem owns_stk {w : World} {base n : Nat} {v : Value} {zs : List Int} (h : w.ownsRow base 5 1 v n (zs.map (Value.int .u8))) (hn : 1 ≤ n) (hz : ∀ z ∈ zs, 0 ≤ z ∧ z ≤ 255) (hl : zs.length ≤ 1048576) : ∃ g cp, v = .slice (some ⟨g, 0, none⟩) n cp ∧ base ≤ g ∧ Stk w g zs := by
  rcases h.2 with ⟨_, h2⟩ | ⟨g, cap, cur, h2, h3, h4, h5, h6, h7, h8⟩
  · omega
  · have hr : Row w g 5 (zs.map (Value.int .u8) ++ cur.toList.drop (n * 1)) := by
      unfold Row
      rw [h4, ← h8, List.take_append_drop]
    refine ⟨g, cap, h2, h3, hr.lt, fun j hj => ?_, hz, hl⟩
    rw [hr.cell j, List.getElem?_append_left (by simpa using hj), List.getElem?_map, List.getElem?_eq_getElem hj]
    rfl
theorem ownsS_addr {w : World} {base : Nat} {v : Value} {ss : List ByteArray} (h : OwnS' w base v ss) (hn : 1 ≤ ss.length) : ∃ g cp, v = .slice (some ⟨g, 0, none⟩) ss.length cp ∧ base ≤ g ∧ ss.length ≤ cp ∧ g < w.heap.size ∧ (∀ j x, ss[j]? = some x → w.cell? ⟨g, j, none⟩ = some (.string x)) := by
  unfold OwnS' at h
  have h' := h
  rcases h.2 with ⟨_, h2⟩ | ⟨g, cap, cur, h2, h3, h4, h5, h6, h7, h8⟩
  · omega
  · subst h2
    refine ⟨g, cap, rfl, h3, h5, lt_of_block h4, fun j x hj => ?_⟩
    have := own_cells h' j x hj
    simpa using this
/-- what both give: a stack of its own and a code -/
def RsR (r : List Int × Int) (w : World) (e : Ending) (w' : World) : Prop := ∃ v, e = .returned (.tuple #[v, .int .i64 r.2]) ∧ OwnB w' w.heap.size v r.1 ∧ Below w.heap.size w w'
def rsR (l : List UInt8) : List Int × Int := match stkR l with | some zs => (zs, 0) | none => ([], 5)
end Go.Proofs.YtcanfcpofihoeaaGreatDoor

namespace Go.Proofs.YtcanfcpofihoeaaGreatDoor
open Go.RowKit
set_option linter.unusedVariables false
set_option linter.unusedSimpArgs false
/-- lines, each with its newline -/
def lnT (ls : List (List UInt8)) : List UInt8 := (ls.map fun p => p ++ [10]).flatten
theorem lnT_join : ∀ ls : List (List UInt8), lnT ls = Lib.join (ls ++ [[]]) [10]
  | [] => by simp [lnT, Lib.join_one]
  | p :: r => by
    have ih := lnT_join r
    obtain ⟨q, qs, e⟩ : ∃ q qs, r ++ [[]] = q :: qs := by
      cases r with
      | nil => exact ⟨[], [], rfl⟩
      | cons a b => exact ⟨a, b ++ [[]], rfl⟩
    rw [List.cons_append, e, join_two, ← e, ← ih]
    simp [lnT]
theorem lnT_spl {ls : List (List UInt8)} (h : ∀ p ∈ ls, (10 : UInt8) ∉ p) : spl 10 (lnT ls) = ls ++ [[]] := by
  rw [lnT_join]
  refine spl_join 10 _ (by simp) (fun p hp => ?_)
  rcases List.mem_append.1 hp with hp | hp
  · exact h p hp
  · simp at hp; subst hp; simp
theorem lnT_of {ls : List (List UInt8)} {l : List UInt8} (h : spl 10 l = ls ++ [[]]) : lnT ls = l := by
  rw [lnT_join, ← h, join_spl]
/-- the program's lines: what is split into enough of them -/
theorem lnT_split {ls : List (List UInt8)} (k : Nat) (h : ∀ p ∈ ls, (10 : UInt8) ∉ p) (hk : ls.length ≤ k) : Lib.splitK [10] 0 k (lnT ls) = ls ++ [[]] := by
  rw [lnT_join]
  refine splitK_join 10 k _ (by simp) (fun p hp => ?_) (by simp; omega)
  rcases List.mem_append.1 hp with hp | hp
  · exact h p hp
  · simp at hp; subst hp; simp
/-- a text whose last line is not empty, or that has no lines of this kind -/
theorem spl_lines {l : List UInt8} (h : (spl 10 l).getLast? = some []) : ∃ ls, spl 10 l = ls ++ [[]] ∧ lnT ls = l := by
  obtain ⟨ls, e⟩ : ∃ ls, spl 10 l = ls ++ [[]] := by
    rw [List.getLast?_eq_some_iff] at h
    exact h
  exact ⟨ls, e, lnT_of e⟩
theorem lnT_inj {ls ms : List (List UInt8)} (h : ∀ p ∈ ls, (10 : UInt8) ∉ p) (k : ∀ p ∈ ms, (10 : UInt8) ∉ p) (e : lnT ls = lnT ms) : ls = ms := by
  have a := lnT_spl h
  rw [e, lnT_spl k] at a
  exact (List.append_cancel_right a).symm
theorem lnT_len : ∀ ls : List (List UInt8), ls.length ≤ (lnT ls).length
  | [] => by simp [lnT]
  | p :: r => by
    have := lnT_len r
    simp [lnT] at this ⊢
    omega
theorem lines_of {t : ByteArray} {ls : List (List UInt8)} {k : Nat} (h : ∀ p ∈ ls, (10 : UInt8) ∉ p) (hk : ls.length < k) (e : t.data.toList = lnT ls) : (Lib.splitB ⟨#[10]⟩ 0 (min k (t.size + 1) - 1) t).map (·.data.toList) = ls ++ [[]] := by
  have hsz : t.data.toList.length = t.size := by rw [Array.length_toList]; rfl
  have hl := lnT_len ls
  rw [← e, hsz] at hl
  rw [Lib.splitB_data, e]
  exact lnT_split _ h (by omega)
end Go.Proofs.YtcanfcpofihoeaaGreatDoor

namespace Go.Proofs.YtcanfcpofihoeaaGreatDoor
open Go.RowKit
set_option linter.unusedVariables false
set_option linter.unusedSimpArgs false
theorem filterMap_all {α : Type} {W : List UInt8 → Option α} : ∀ ps : List (List UInt8), (ps.all fun p => (W p).isSome) = true → ps.map W = (ps.filterMap W).map some
  | [], _ => rfl
  | p :: r, h => by
    simp only [List.all_cons, Bool.and_eq_true] at h
    obtain ⟨a, ha⟩ := Option.isSome_iff_exists.1 h.1
    rw [List.map_cons, List.filterMap_cons, ha, filterMap_all r h.2]
    rfl
/-- the list of a text, each line by W -/
def linesJ {α : Type} (W : List UInt8 → Option α) (l : List UInt8) : Option (List α) := if (spl 10 l).getLast? = some [] ∧ ((spl 10 l).dropLast.all fun p => (W p).isSome) = true then some ((spl 10 l).dropLast.filterMap W) else none
theorem linesJ_of {α : Type} {W : List UInt8 → Option α} {T : α → List UInt8} {xs : List α} (h1 : ∀ a ∈ xs, W (T a) = some a) (h2 : ∀ a ∈ xs, (10 : UInt8) ∉ T a) : linesJ W (lnT (xs.map T)) = some xs := by
  have hs : spl 10 (lnT (xs.map T)) = xs.map T ++ [[]] := lnT_spl (fun p hp => by
    simp only [List.mem_map] at hp
    obtain ⟨a, ha, rfl⟩ := hp
    exact h2 a ha)
  unfold linesJ
  rw [hs, List.dropLast_concat]
  have hm : ((xs.map T).all fun p => (W p).isSome) = true := by
    rw [List.all_eq_true]
    intro p hp
    simp only [List.mem_map] at hp
    obtain ⟨a, ha, rfl⟩ := hp
    rw [h1 a ha]
    rfl
  rw [if_pos ⟨by simp, hm⟩]
  congr 1
  clear hs hm
  induction xs with
  | nil => rfl
  | cons a r ih =>
    rw [List.map_cons, List.filterMap_cons, h1 a (by simp)]
    simp only
    rw [ih (fun b hb => h1 b (List.mem_cons_of_mem _ hb)) (fun b hb => h2 b (List.mem_cons_of_mem _ hb))]
theorem linesJ_out {α : Type} {W : List UInt8 → Option α} {T : α → List UInt8} {ok : α → Prop} (hW : ∀ p a, W p = some a → ok a ∧ T a = p) {l : List UInt8} {xs : List α} (h : linesJ W l = some xs) : (∀ a ∈ xs, ok a) ∧ lnT (xs.map T) = l := by
  unfold linesJ at h
  split at h
  · rename_i hc
    obtain ⟨hc1, hc2⟩ := hc
    injection h with h
    obtain ⟨ls, hl, he⟩ := spl_lines hc1
    rw [hl, List.dropLast_concat] at h hc2
    have hm := filterMap_all ls hc2
    rw [h] at hm
    have key : ∀ (ls : List (List UInt8)) (xs : List α), ls.map W = xs.map some → (∀ a ∈ xs, ok a) ∧ xs.map T = ls := by
      intro ls
      induction ls with
      | nil =>
        intro xs e
        cases xs with
        | nil => exact ⟨(fun a ha => by cases ha), rfl⟩
        | cons a r => cases e
      | cons p r ih =>
        intro xs e
        cases xs with
        | nil => cases e
        | cons a r2 =>
          simp only [List.map_cons] at e
          injection e with e1 e2
          obtain ⟨x, y⟩ := ih r2 e2
          obtain ⟨u, v⟩ := hW p a e1
          refine ⟨fun b hb => ?_, by rw [List.map_cons, v, y]⟩
          rcases List.mem_cons.1 hb with rfl | hb
          · exact u
          · exact x b hb
    obtain ⟨x, y⟩ := key ls xs hm
    exact ⟨x, by rw [y]; exact he⟩
  · cases h
/-- two lists with one text are one list -/
theorem lines_inj {α : Type} {W : List UInt8 → Option α} {T : α → List UInt8} {xs bs : List α} (h1 : ∀ a ∈ xs, W (T a) = some a) (h2 : ∀ a ∈ xs, (10 : UInt8) ∉ T a) (k1 : ∀ a ∈ bs, W (T a) = some a) (k2 : ∀ a ∈ bs, (10 : UInt8) ∉ T a) (e : lnT (xs.map T) = lnT (bs.map T)) : xs = bs := by
  have a := linesJ_of h1 h2
  rw [e, linesJ_of k1 k2] at a
  exact (Option.some.inj a).symm
/-- the program's lines of a text, at most k pieces -/
def wLn (k : Nat) (t : ByteArray) : List ByteArray := Lib.splitB ⟨#[10]⟩ 0 (min k (t.size + 1) - 1) t
theorem map_read {α : Type} {R : ByteArray → Option α} {T : α → List UInt8} : ∀ (ps : List ByteArray) (xs : List α), ps.map (·.data.toList) = xs.map T → (∀ a ∈ xs, ∀ p : ByteArray, p.data.toList = T a → R p = some a) → ps.map R = xs.map some
  | [], [], _, _ => rfl
  | [], _ :: _, e, _ => by cases e
  | _ :: _, [], e, _ => by cases e
  | p :: r, a :: s, e, h => by
    simp only [List.map_cons] at e ⊢
    injection e with e1 e2
    rw [h a (by simp) p e1, map_read r s e2 (fun b hb => h b (List.mem_cons_of_mem _ hb))]
/-- the program reads what was written: every line but the last -/
theorem wLn_read {α : Type} {R : ByteArray → Option α} {T : α → List UInt8} {k : Nat} {t : ByteArray} {xs : List α} (hR : ∀ a ∈ xs, ∀ p : ByteArray, p.data.toList = T a → R p = some a) (hN : ∀ a ∈ xs, (10 : UInt8) ∉ T a) (hk : xs.length < k) (e : t.data.toList = lnT (xs.map T)) : (wLn k t).dropLast.map R = xs.map some := by
  refine map_read _ xs ?_ hR
  have h := lines_of (t := t) (ls := xs.map T) (k := k) (fun p hp => by
    simp only [List.mem_map] at hp
    obtain ⟨a, ha, rfl⟩ := hp
    exact hN a ha) (by simpa using hk) e
  have h2 := congrArg List.dropLast h
  rw [List.dropLast_concat] at h2
  rw [← h2]
  unfold wLn
  rw [← List.map_dropLast]
theorem wLn_len (k : Nat) (t : ByteArray) (hk : 1 ≤ k) : (wLn k t).length ≤ k ∧ 1 ≤ (wLn k t).length := by
  have := Lib.splitB_length_le ⟨#[10]⟩ 0 (min k (t.size + 1) - 1) t
  refine ⟨by unfold wLn; omega, ?_⟩
  unfold wLn
  cases hk : min k (t.size + 1) - 1 with
  | zero => simp [Lib.splitB]
  | succ j => unfold Lib.splitB; split <;> simp
end Go.Proofs.YtcanfcpofihoeaaGreatDoor

namespace Go.Proofs.YtcanfcpofihoeaaGreatDoor
open Go.RowKit
set_option linter.unusedVariables false
set_option linter.unusedSimpArgs false
/-- what a text is read as: by lines with W, and the list valid -/
def rdR {α : Type} (W : List UInt8 → Option α) (ok : List α → Bool) (l : List UInt8) : List α × Int := match linesJ W l with | some xs => if ok xs then (xs, 0) else ([], 5) | none => ([], 5)
theorem rdR_none {α : Type} {W : List UInt8 → Option α} {ok : List α → Bool} {l : List UInt8} (h : linesJ W l = none) : rdR W ok l = ([], 5) := by simp [rdR, h]
theorem rdR_some {α : Type} {W : List UInt8 → Option α} {ok : List α → Bool} {l : List UInt8} {xs : List α} (h : linesJ W l = some xs) (hk : ok xs = true) : rdR W ok l = (xs, 0) := by simp [rdR, h, hk]
theorem rdR_bad {α : Type} {W : List UInt8 → Option α} {ok : List α → Bool} {l : List UInt8} {xs : List α} (h : linesJ W l = some xs) (hk : ok xs = false) : rdR W ok l = ([], 5) := by simp [rdR, h, hk]
/-- what ties a reader of lines to the text -/
structure Lined {α : Type} (W : List UInt8 → Option α) (R : ByteArray → Option α) (T : α → List UInt8) (okA : α → Prop) (ok : List α → Bool) (tx : List α → List UInt8) (k : Nat) : Prop where
  k1 : 1 ≤ k
  out : ∀ p a, W p = some a → T a = p
  back : ∀ a, okA a → W (T a) = some a
  read : ∀ a, okA a → ∀ p : ByteArray, p.data.toList = T a → R p = some a
  line : ∀ a, okA a → (10 : UInt8) ∉ T a
  all : ∀ xs, ok xs = true → (∀ a ∈ xs, okA a) ∧ xs.length < k
  nil : ok [] = true
  yes : ∀ xs, ok xs = true → tx xs = lnT (xs.map T)
  no : ∀ xs, ok xs = false → tx xs = []
theorem map_some_inj {α : Type} : ∀ {xs ys : List α}, xs.map some = ys.map some → xs = ys
  | [], [], _ => rfl
  | [], _ :: _, e => by cases e
  | _ :: _, [], e => by cases e
  | a :: r, b :: s, e => by
    simp only [List.map_cons] at e
    injection e with e1 e2
    injection e1 with e1
    rw [e1, map_some_inj e2]
section
variable {α : Type} {W : List UInt8 → Option α} {R : ByteArray → Option α} {T : α → List UInt8} {okA : α → Prop} {ok : List α → Bool} {tx : List α → List UInt8} {k : Nat} {t : ByteArray}
theorem Lined.prog (h : Lined W R T okA ok tx k) {xs : List α} (hj : linesJ W t.data.toList = some xs) (hk : ok xs = true) : (wLn k t).dropLast.map R = xs.map some := by
  have a := h.all xs hk
  have e := (linesJ_out (ok := fun _ => True) (fun p a hp => ⟨trivial, h.out p a hp⟩) hj).2
  exact wLn_read (fun b hb => h.read b (a.1 b hb)) (fun b hb => h.line b (a.1 b hb)) a.2 e.symm
theorem Lined.bad (h : Lined W R T okA ok tx k) {p : ByteArray} (hp : p ∈ (wLn k t).dropLast) (hr : R p = none) : rdR W ok t.data.toList = ([], 5) := by
  cases hj : linesJ W t.data.toList with
  | none => exact rdR_none hj
  | some xs =>
    cases hk : ok xs with
    | false => exact rdR_bad hj hk
    | true =>
      have e := h.prog hj hk
      have hm : R p ∈ (wLn k t).dropLast.map R := List.mem_map_of_mem hp
      rw [e, hr, List.mem_map] at hm
      obtain ⟨a, _, ha⟩ := hm
      cases ha
theorem Lined.not (h : Lined W R T okA ok tx k) {xs : List α} (hx : (wLn k t).dropLast.map R = xs.map some) (hn : tx xs ≠ t.data.toList) : rdR W ok t.data.toList = ([], 5) := by
  cases hj : linesJ W t.data.toList with
  | none => exact rdR_none hj
  | some ys =>
    cases hk : ok ys with
    | false => exact rdR_bad hj hk
    | true =>
      have e := h.prog hj hk
      rw [hx] at e
      have e2 := map_some_inj e
      subst e2
      exact absurd (by rw [h.yes xs hk]; exact (linesJ_out (ok := fun _ => True) (fun p a hp => ⟨trivial, h.out p a hp⟩) hj).2) hn
theorem Lined.good (h : Lined W R T okA ok tx k) {xs : List α} (hx : (wLn k t).dropLast.map R = xs.map some) (hn : tx xs = t.data.toList) : rdR W ok t.data.toList = (xs, 0) := by
  cases hk : ok xs with
  | true =>
    have a := h.all xs hk
    have := linesJ_of (W := W) (T := T) (xs := xs) (fun b hb => h.back b (a.1 b hb)) (fun b hb => h.line b (a.1 b hb))
    rw [← h.yes xs hk, hn] at this
    exact rdR_some this hk
  | false =>
    rw [h.no xs hk] at hn
    have hz : t.size = 0 := by
      have : t.data.toList.length = t.size := by rw [Array.length_toList]; rfl
      rw [← hn] at this
      simpa using this.symm
    have hw : wLn k t = [t] := by
      unfold wLn
      rw [hz]
      have := h.k1
      rw [show min k (0 + 1) - 1 = 0 by omega]
      simp [Lib.splitB]
    rw [hw] at hx
    simp at hx
    have hx2 : xs = [] := by cases xs with | nil => rfl | cons => simp at hx
    subst hx2
    rw [h.nil] at hk
    cases hk
end
end Go.Proofs.YtcanfcpofihoeaaGreatDoor

namespace Go.Proofs.YtcanfcpofihoeaaGreatDoor
open Go.RowKit
set_option linter.unusedVariables false
set_option linter.unusedSimpArgs false
def canD (l : List UInt8) : Bool := decide (1 ≤ l.length) && decide (l.length ≤ 13) && (decide (l.length = 1) || decide (l[0]? ≠ some 48)) && l.all digB
theorem canD_of (n : Nat) (h : n < 10000000000000) : canD (Lib.decDigits n) = true ∧ numV (Lib.decDigits n) = n := by
  obtain ⟨h1, h2, h3, h4, h5⟩ := can_dec 13 n (by simpa using h) (by omega)
  refine ⟨?_, h4⟩
  unfold canD
  simp only [Bool.and_eq_true, Bool.or_eq_true, decide_eq_true_eq]
  exact ⟨⟨⟨h2, h1⟩, h5⟩, h3⟩
theorem canD_dec {l : List UInt8} (h : canD l = true) : Lib.decDigits (numV l) = l := by
  unfold canD at h
  simp only [Bool.and_eq_true, Bool.or_eq_true, decide_eq_true_eq] at h
  exact dec_numV l (by intro e; subst e; simp at h) h.1.2 h.2
theorem canD_digs {l : List UInt8} (h : canD l = true) : l.all digB = true := by
  unfold canD at h
  simp only [Bool.and_eq_true] at h
  exact h.2
theorem canD_lt {l : List UInt8} (h : canD l = true) : numV l < 10000000000000 := by
  unfold canD at h
  simp only [Bool.and_eq_true, decide_eq_true_eq] at h
  have h2 := numV_lt l h.2
  have h3 : 10 ^ l.length ≤ 10 ^ 13 := Nat.pow_le_pow_right (by omega) h.1.1.2
  omega
theorem canD_ne {l : List UInt8} (h : canD l = true) : l ≠ [] := by
  rintro rfl
  cases h
theorem digs_no {p : List UInt8} {c : UInt8} (hc : digB c = false) (h : p.all digB = true) : c ∉ p := fun hm => by
  have := List.all_eq_true.1 h c hm
  rw [hc] at this; cases this
theorem parseM_D (M K : Nat) (hKM : K ≤ M) (hK : K < 1844674407370955162) : ∀ (l : List UInt8) (acc : Nat), acc ≤ K → l.all digB = true → l.foldl (fun n x => 10 * n + (x.toNat - 48)) acc ≤ K → Lib.parseUintM M acc l = .ok (l.foldl (fun n x => 10 * n + (x.toNat - 48)) acc)
  | [], acc, _, _, _ => rfl
  | x :: r, acc, ha, hd, hle => by
    simp only [List.all_cons, Bool.and_eq_true] at hd
    have hx := hd.1
    simp [digB] at hx
    have mono : ∀ (r : List UInt8) (a : Nat), a ≤ r.foldl (fun n x => 10 * n + (x.toNat - 48)) a := by
      intro r
      induction r with
      | nil => intro a; exact Nat.le_refl _
      | cons y r ih => intro a; exact Nat.le_trans (by omega) (ih (10 * a + (y.toNat - 48)))
    have h2 := mono r (10 * acc + (x.toNat - 48))
    simp only [List.foldl_cons] at hle ⊢
    rw [Lib.parseUintM, if_pos (by omega), if_neg (by omega), if_neg (by omega), show acc * 10 + (x.toNat - 48) = 10 * acc + (x.toNat - 48) by omega]
    exact parseM_D M K hKM hK r _ (by omega) hd.2 hle
theorem parse64_D {l : List UInt8} (h : canD l = true) : Lib.parseIntB 64 l = .ok (numV l : Int) := by
  have hd := canD_digs h
  have hle := canD_lt h
  match l, canD_ne h with
  | c :: r, _ =>
    have hc : 48 ≤ c.toNat ∧ c.toNat ≤ 57 := by
      simp only [List.all_cons, Bool.and_eq_true] at hd
      have := hd.1
      simpa [digB] using this
    have e : Lib.parseUintB 64 (c :: r) = .ok (numV (c :: r)) := by
      unfold Lib.parseUintB
      rw [if_neg (by simp)]
      exact parseM_D _ 10000000000000 (by decide) (by decide) (c :: r) 0 (by omega) hd (by show numV (c :: r) ≤ _; omega)
    unfold Lib.parseIntB
    simp only
    rw [if_neg (by omega), e]
    simp only
    rw [if_neg (by omega), if_neg (by omega), if_neg (by omega)]
/-- a line of two numbers, as the model reads it -/
def twoW (p : List UInt8) : Option (Int × Int) := match spl 32 p with
  | [a, b] => if canD a && canD b then some ((numV a : Int), (numV b : Int)) else none
  | _ => none
def twoT (a b : Int) : List UInt8 := Lib.itoa a ++ [32] ++ Lib.itoa b
theorem spl_twoT (m n : Nat) (hm : m < 10000000000000) (hn : n < 10000000000000) : spl 32 (twoT m n) = [Lib.decDigits m, Lib.decDigits n] := by
  unfold twoT
  rw [itoa_nat, itoa_nat, List.append_assoc, List.singleton_append, spl_app 32 _ _ (digs_no (by decide) (canD_digs (canD_of m hm).1)), spl_one 32 _ (digs_no (by decide) (canD_digs (canD_of n hn).1))]
theorem twoW_of (m n : Nat) (hm : m < 10000000000000) (hn : n < 10000000000000) : twoW (twoT m n) = some ((m : Int), (n : Int)) := by
  unfold twoW
  rw [spl_twoT m n hm hn]
  simp only
  have a := canD_of m hm; have b := canD_of n hn
  rw [a.1, b.1, a.2, b.2]
  rfl
theorem twoW_out {p : List UInt8} {a b : Int} (h : twoW p = some (a, b)) : (0 ≤ a ∧ a < 10000000000000) ∧ (0 ≤ b ∧ b < 10000000000000) ∧ p = twoT a b := by
  unfold twoW at h
  split at h
  · rename_i x y hs
    split at h
    · rename_i hc
      simp only [Bool.and_eq_true] at hc
      injection h with h
      injection h with h1 h2
      subst h1; subst h2
      have lx := canD_lt hc.1; have ly := canD_lt hc.2
      refine ⟨by omega, by omega, ?_⟩
      unfold twoT
      rw [itoa_nat, itoa_nat, canD_dec hc.1, canD_dec hc.2, ← join_spl 32 p, hs, join_two, Lib.join_one]
      simp
    · cases h
  · cases h
/-- no newline in a line of two numbers -/
theorem twoT_line (m n : Nat) (hm : m < 10000000000000) (hn : n < 10000000000000) : (10 : UInt8) ∉ twoT m n := by
  unfold twoT
  rw [itoa_nat, itoa_nat]
  simp only [List.mem_append, List.mem_singleton, not_or]
  exact ⟨⟨digs_no (by decide) (canD_digs (canD_of m hm).1), by decide⟩, digs_no (by decide) (canD_digs (canD_of n hn).1)⟩
end Go.Proofs.YtcanfcpofihoeaaGreatDoor

namespace Go.Proofs.YtcanfcpofihoeaaGreatDoor
open Go.RowKit
set_option linter.unusedVariables false
set_option linter.unusedSimpArgs false
def pi64 (l : List UInt8) : Option Int := match Lib.parseIntB 64 l with | .ok v => some v | _ => none
theorem pi64_out {l : List UInt8} {v : Int} (h : pi64 l = some v) : Lib.parseIntB 64 l = .ok v := by
  unfold pi64 at h
  cases hh : Lib.parseIntB 64 l with
  | ok u => rw [hh] at h; injection h with h; rw [h]
  | «syntax» => rw [hh] at h; cases h
  | range => rw [hh] at h; cases h
theorem pi64_bd {l : List UInt8} {v : Int} (h : pi64 l = some v) : -9223372036854775808 ≤ v ∧ v ≤ 9223372036854775807 := by
  have := Lib.parseIntB_bounds (pi64_out h)
  simp at this
  omega
theorem cut_oneK (c : UInt8) (p q : List UInt8) (h : c ∉ p) : Lib.cut (p ++ c :: q) [c] = (p, q, true) := by
  unfold Lib.cut
  rw [Lib.index_one, indexByte_app c q p h, if_pos (by omega)]
  simp only [Int.toNat_natCast, List.length_cons, List.length_nil]
  rw [List.take_left' rfl, show p ++ c :: q = (p ++ [c]) ++ q by simp, List.drop_left' (by simp)]
theorem cut_lenK (s : List UInt8) (c : List UInt8) : (Lib.cut s c).1.length ≤ s.length ∧ (Lib.cut s c).2.1.length ≤ s.length := by
  unfold Lib.cut
  split
  · constructor
    · simp; omega
    · simp
  · simp
theorem pi64_D {l : List UInt8} (h : canD l = true) : pi64 l = some (numV l : Int) := by
  unfold pi64
  rw [parse64_D h]
theorem itoa_noC {c : UInt8} (hc : digB c = false) (n : Nat) (hn : n < 10000000000000) : c ∉ Lib.decDigits n := digs_no hc (canD_digs (canD_of n hn).1)
/-- a line of two numbers, as the program reads it -/
def twoR (p : ByteArray) : Option (Int × Int) := if (Lib.cut p.data.toList [32]).2.2 then (match pi64 (Lib.cut p.data.toList [32]).1, pi64 (Lib.cut p.data.toList [32]).2.1 with | some a, some b => some (a, b) | _, _ => none) else none
theorem twoR_of (m n : Nat) (hm : m < 10000000000000) (hn : n < 10000000000000) (p : ByteArray) (hp : p.data.toList = twoT m n) : twoR p = some ((m : Int), (n : Int)) := by
  have e : Lib.cut p.data.toList [32] = (Lib.decDigits m, Lib.decDigits n, true) := by
    rw [hp]
    unfold twoT
    rw [itoa_nat, itoa_nat, List.append_assoc, List.singleton_append]
    exact cut_oneK 32 _ _ (itoa_noC (by decide) m hm)
  unfold twoR
  rw [e]
  simp only [if_true]
  rw [pi64_D (canD_of m hm).1, pi64_D (canD_of n hn).1, (canD_of m hm).2, (canD_of n hn).2]
theorem twoR_bd {p : ByteArray} {a b : Int} (h : twoR p = some (a, b)) : (-9223372036854775808 ≤ a ∧ a ≤ 9223372036854775807) ∧ (-9223372036854775808 ≤ b ∧ b ≤ 9223372036854775807) := by
  unfold twoR at h
  split at h
  · cases e1 : pi64 (Lib.cut p.data.toList [32]).1 with
    | none => rw [e1] at h; cases h
    | some x =>
      cases e2 : pi64 (Lib.cut p.data.toList [32]).2.1 with
      | none => rw [e1, e2] at h; cases h
      | some y =>
        rw [e1, e2] at h
        injection h with h
        injection h with ha hb
        subst ha; subst hb
        exact ⟨pi64_bd e1, pi64_bd e2⟩
  · cases h
end Go.Proofs.YtcanfcpofihoeaaGreatDoor

namespace Go.Proofs.YtcanfcpofihoeaaGreatDoor
open Go.RowKit Go.Shelf
set_option linter.unusedSimpArgs false
set_option linter.unusedVariables false
section
def sg (zs : List ByteArray) (j : Nat) : ByteArray := zs[j]?.getD ByteArray.empty
def bsA (js : List ByteArray) (d : Nat) : Array Value := #[.int .i64 (d : Int), .string (sg js d)]
set_option maxRecDepth 100000 in
set_option maxHeartbeats 4000000 in
theorem bs1_in (F : Fence) (m : Nat) (hf : F.fn 91) (hro : F.round = none) (hm : 1 ≤ m) (l Bs b n cap : Nat) (js : List ByteArray) (hn : n = js.length) (hl : n ≤ 1048576) (J Jx : List (Fin n) → World → Prop)
    (hY : ∀ pre (x : Fin n) W, J pre W → pre.length < n → YieldAt F (m - 1) Tryz.prog l (bsA js (n - 1 - x.1)) W fun e W' =>
      (e = .returned (.bool true) ∧ J (pre ++ [x]) W' ∧ KeepB (fun g => g = b ∨ g = Bs) W W') ∨ (e = .returned (.bool false) ∧ Jx (pre ++ [x]) W'))
    (W : World) (hBs : W.cell? ⟨Bs, 0, none⟩ = some (.slice (some ⟨b, 0, none⟩) n cap)) (hc : ∀ j, j < n → W.cell? ⟨b, j, none⟩ = some (.string (sg js j))) (h0 : J [] W) :
    CallsIn F m Tryz.prog 91 #[.func (.yield l) #[] #[], .pointer (some ⟨Bs, 0, none⟩)] W fun e W' => (∃ v, e = .returned v) ∧
      ((∃ ys, ys = List.finRange n ∧ J ys W') ∨ (∃ pre, (∃ k, k ≤ n ∧ pre = (List.finRange n).take k) ∧ Jx pre W')) := by
  have hC := hid hc
  have hBB := hid hBs
  have hbx0 := hBs
  clear hn hc hBs
  refine callsIn_of_wp Tryz.func91 rfl hf ?_ hro
  simp only [Tryz.ntmps91, List.size_toArray, List.length_cons, List.length_nil, Nat.reduceAdd, Nat.reduceSub, Array.replicate_succ, Array.replicate_zero, List.push_toArray, List.append_toArray, List.nil_append, List.cons_append]
  have t0 : IntKind.i64.wrap ((n : Int) - 1) = (n : Int) - 1 := IntWalk.i64_in _ (by omega)
  gi_wp2
  clear hbx0
  gi_loopw [3] (fun i wr => ∃ (k c : Nat) (z : Int), k + c = n ∧ i = .int .i64 z ∧ z = (c : Int) - 1 ∧ J ((List.finRange n).take k) wr ∧ KeepB (fun g => g = b ∨ g = Bs) W wr)
    (fun i _ => (intOf i + 1).toNat)
  case atStart => exact ⟨0, n, (n : Int) - 1, by omega, rfl, rfl, h0, KeepB.refl _ _⟩
  case round =>
    obtain ⟨k, c, z, hkc, rfl, hz, hJs, hK⟩ := hrel
    have hbx := (hK.cell (g := Bs) (.inr rfl) 0).trans hBB.out
    have HZ := hid hz
    have HKC := hid hkc
    by_cases h0c : c = 0
    · have hzn : ¬ (0 : Int) ≤ z := by omega
      have hzn2 : z < 0 := by omega
      have hkn : k = n := by omega
      clear hz hkc
      gi_wp2
      go_end0
      rw [hkn, finTake_all n] at hJs
      exact ⟨⟨_, rfl⟩, .inl hJs⟩
    · obtain ⟨d, hd⟩ : ∃ d, c = d + 1 := ⟨c - 1, by omega⟩
      obtain rfl : z = (d : Int) := by omega
      have hdn : d < n := by omega
      have hlt : k < n := by omega
      have hd0 : (0 : Int) ≤ (d : Int) := by omega
      have hdn' : (d : Int) < (n : Int) := by omega
      have x0 := (hK.cell (g := b) (.inl rfl) d).trans (hC.out d hdn)
      obtain ⟨fn, tmps, assign, body, hy, hR⟩ := hY _ ⟨k, hlt⟩ wr hJs (by rw [finTake_length n k (by omega)]; exact hlt)
      have hlen := hid (finTake_succ n k hlt)
      unfold bsA at hy
      dsimp only at hy
      rw [show n - 1 - k = d by omega] at hy
      obtain ⟨p, hp⟩ : ∃ p, sg js d = p := ⟨_, rfl⟩
      rw [hp] at x0 hy
      have tz : IntKind.i64.wrap ((d : Int) - 1) = (d : Int) - 1 := IntWalk.i64_in _ (by omega)
      have HD := hid hd
      clear hp hz hkc hd
      gi_wp2
      refine hR.mono ?_
      rintro e W3 h3
      obtain ⟨bv, rfl, h3a, h3b⟩ := yield_two h3
      cases bv
      · have h5 := hid (h3b rfl)
        gi_wp2
        refine bodyPost_ret (results_none rfl _ _ _) rfl ?_
        exact ⟨⟨_, rfl⟩, .inr ⟨_, ⟨k + 1, by omega, hlen.out.symm⟩, h5.out⟩⟩
      · have h5 := hid (h3a rfl)
        gi_wp2
        go_roundw
        case rel => exact ⟨k + 1, d, (d : Int) - 1, by have := HKC.out; have := HD.out; omega, by first | rfl | go_num, rfl, by rw [hlen.out]; exact h5.out.1, hK.trans h5.out.2⟩
        case measure => simp [intOf] <;> omega
theorem bs_in (F : Fence) (m : Nat) (hf : F.fn 66) (hro : F.round = none) (a : Option Addr) (len cap : Nat) (w : World) :
    CallsIn F m Tryz.prog 66 #[.slice a len cap] w fun e w' => e = .returned (.func (.func 91) #[] #[.pointer (some ⟨w.heap.size, 0, none⟩)]) ∧ w' = w.alloc (.cells #[.slice a len cap] 34) := by
  refine callsIn_of_wp Tryz.func66 rfl hf ?_ hro
  simp only [Tryz.ntmps66, List.size_toArray, List.length_cons, List.length_nil, Nat.reduceAdd, Nat.reduceSub, Array.replicate_succ, Array.replicate_zero, List.push_toArray, List.append_toArray, List.nil_append, List.cons_append]
  gi_wp2
  go_ret
  exact ⟨rfl, rfl⟩
theorem bs_stops (F : Fence) (m : Nat) (hf : F.fn 91) (hro : F.round = none) (hm : 1 ≤ m) (Bs b n cap : Nat) (js : List ByteArray) (hn : n = js.length) (hl : n ≤ 1048576) (w : World) (hBs : Bs < w.heap.size) (hb : b < w.heap.size)
    (hc : w.cell? ⟨Bs, 0, none⟩ = some (.slice (some ⟨b, 0, none⟩) n cap)) (hI : ∀ j, j < n → w.cell? ⟨b, j, none⟩ = some (.string (sg js j))) :
    SeqStopsK F m Tryz.prog 91 #[.pointer (some ⟨Bs, 0, none⟩)] (fun x : Fin n => bsA js (n - 1 - x.1)) (KeepB (fun g => g = b ∨ g = Bs)) (fun ys => ys = List.finRange n)
      (fun pre => ∃ k, k ≤ n ∧ pre = (List.finRange n).take k) n w := fun l J Jx W hW hA _ hY h0 => by
  exact bs1_in F m hf hro hm l Bs b n cap js hn hl J Jx hY W ((hW.cell (p := ⟨Bs, 0, none⟩) hBs).trans hc)
    (fun j hj => (hW.cell (p := ⟨b, j, none⟩) hb).trans (hI j hj)) h0
end
end Go.Proofs.YtcanfcpofihoeaaGreatDoor

namespace Go.Proofs.YtcanfcpofihoeaaGreatDoor
open Go.RowKit Go.Shelf
set_option linter.unusedSimpArgs false
set_option linter.unusedVariables false
attribute [local go_sem] Oper.semAt_some
/-- the library's variables that are read -/
def LV (w : World) (tS : TypeId) (pS : Value) (tR : TypeId) (pR : Value) (m : Int) : Prop :=
  (w.var? Tryz.prog "strconv.ErrSyntax" = some #[.iface tS pS] ∧ 1 < w.heap.size) ∧ (w.var? Tryz.prog "strconv.ErrRange" = some #[.iface tR pR] ∧ 2 < w.heap.size) ∧ (w.cell? ⟨0, 0, none⟩ = some (.int .i64 m) ∧ 0 < w.heap.size)
theorem LV.below {w w' : World} {tS tR : TypeId} {pS pR : Value} {m : Int} {n : Nat} (h : LV w tS pS tR pR m) (hb : Below n w w') (hn : w.heap.size ≤ n) : LV w' tS pS tR pR m :=
  ⟨⟨var?_below hb (by kernel_rfl) (Nat.lt_of_lt_of_le h.1.2 hn) h.1.1, Nat.lt_of_lt_of_le h.1.2 hb.size⟩, ⟨var?_below hb (by kernel_rfl) (Nat.lt_of_lt_of_le h.2.1.2 hn) h.2.1.1, Nat.lt_of_lt_of_le h.2.1.2 hb.size⟩, ⟨(hb.cell (p := ⟨0, 0, none⟩) (Nat.lt_of_lt_of_le h.2.2.2 hn)).trans h.2.2.1, Nat.lt_of_lt_of_le h.2.2.2 hb.size⟩⟩
/-- what ParseUint makes of a word -/
def pw (p : ByteArray) : Option Nat := match Lib.parseUintB 8 p.data.toList with | .ok u => some u | _ => none
def pwI (p : ByteArray) : Int := ((pw p).getD 0 : Nat)
theorem parse_any (p : ByteArray) (hp : p.size ≤ 1048576) (w : World) {tS tR : TypeId} {pS pR : Value} {m : Int} (h : LV w tS pS tR pR m) :
    Calls Tryz.prog 67 #[.string p, .int .i64 10, .int .i64 8] w fun e w' => Below w.heap.size w w' ∧ ((∃ u : Nat, pw p = some u ∧ u ≤ 255 ∧ e = .returned (.tuple #[.int .u64 u, .nilIface])) ∨ (∃ x T q, pw p = none ∧ e = .returned (.tuple #[.int .u64 x, .iface T (.pointer (some q))]))) := by
  cases hh : Lib.parseUintB 8 p.data.toList with
  | ok u =>
    refine (Tryz.strconv_ParseUint_10_at8_ok p (by omega) u hh w).mono ?_
    rintro e w' ⟨rfl, hw⟩
    refine ⟨?_, .inl ⟨u, by simp [pw, hh], Lib.parseUintB_le hh, rfl⟩⟩
    rcases hw with rfl | rfl
    · exact Below.refl _ _
    · exact Lib.bytesWorld_below _ _ _
  | «syntax» =>
    refine (Tryz.strconv_ParseUint_10_at8_syntax_var p (by omega) hh tS pS w h.1.1).mono ?_
    rintro e w' ⟨N, rfl, _, _, hB⟩
    exact ⟨hB, .inr ⟨_, _, _, by simp [pw, hh], rfl⟩⟩
  | range =>
    refine (Tryz.strconv_ParseUint_10_at8_range_var p (by omega) hh tR pR w h.2.1.1).mono ?_
    rintro e w' ⟨N, rfl, _, _, hB⟩
    exact ⟨hB, .inr ⟨_, _, _, by simp [pw, hh], rfl⟩⟩
/-- the numbers of the words, the last one first -/
def rlL {n : Nat} (ss : List ByteArray) (pre : List (Fin n)) : List Int := pre.map fun x => pwI (sg ss (n - 1 - x.1))
theorem split_size (sep : ByteArray) (save : Nat) : ∀ (k : Nat) (s p : ByteArray), p ∈ Lib.splitB sep save k s → p.size ≤ s.size
  | 0, s, p, h => by simp [Lib.splitB] at h; subst h; exact Nat.le_refl _
  | k + 1, s, p, h => by
    unfold Lib.splitB at h
    split at h
    · simp at h; subst h; exact Nat.le_refl _
    · simp only [List.mem_cons] at h
      rcases h with rfl | h
      · simp [ByteArray.size_extract]; omega
      · have := split_size sep save k _ p h
        simp [ByteArray.size_extract] at this; omega
theorem rlL_all (ss : List ByteArray) (n : Nat) (hn : n = ss.length) : rlL ss (List.finRange n) = ss.reverse.map pwI := by
  subst hn
  apply List.ext_getElem?
  intro i
  simp only [rlL, List.getElem?_map]
  by_cases h : i < ss.length
  · simp [h, sg, List.getElem?_reverse]
    rw [List.getElem?_eq_getElem (by omega)]; rfl
  · simp [h]
/-- what the words of a text are cut into at most nine -/
def w9 (t : ByteArray) : List ByteArray := Lib.splitB ⟨#[58]⟩ 0 (min 9 (t.size + 1) - 1) t
def RlG (t : ByteArray) (w : World) (e : Ending) (w' : World) : Prop := ∃ v, e = .returned v ∧ Below w.heap.size w w' ∧ (((w9 t).all fun p => (pw p).isSome) = true ∧ w'.ownsRow w.heap.size 5 1 v (w9 t).length (((w9 t).reverse.map pwI).map (Value.int .u8)) ∨ ((w9 t).all fun p => (pw p).isSome) = false ∧ v = .slice none 0 0)
set_option maxRecDepth 100000 in
set_option maxHeartbeats 4000000 in
theorem implRlf_any (t : ByteArray) (ht : t.size ≤ 1048576) (w : World) {tS tR : TypeId} {pS pR : Value} {m : Int} (hLV : LV w tS pS tR pR m) :
    Calls Tryz.prog 44 #[.string t] w (RlG t w) := by
  obtain ⟨i0, hi, iz0, iz1, iz2⟩ := info_parts Tryz.infoU8
  have hm : 1 ≤ 8 := by omega
  have g1 : Fence.wide.fn 27 := trivial
  have g4 : Fence.wide.fn 67 := trivial
  have g3 : Fence.wide.fn 66 := trivial
  have HLV := hid hLV
  have HSP := hid (fun W (h : LV W tS pS tR pR m) => show Calls Tryz.prog 27 #[.string t, .string ⟨#[58]⟩, .int .i64 9] W fun e w' => e = .returned (.slice (some ⟨W.heap.size, 0, none⟩) (w9 t).length (min 9 (t.size + 1))) ∧ w' = W.alloc (.cells (Lib.cellsOf (w9 t) (min 9 (t.size + 1))) 9) from Tryz.strings_SplitN t ⟨#[58]⟩ 9 m W (by omega) h.2.2.1 (by decide) (by omega) (by omega))
  have hsl9 : (w9 t).length ≤ 9 := by have := Lib.splitB_length_le ⟨#[58]⟩ 0 (min 9 (t.size + 1) - 1) t; unfold w9; omega
  have hsz9 : ∀ p ∈ w9 t, p.size ≤ 1048576 := fun p hp => Nat.le_trans (split_size _ _ _ _ p hp) ht
  obtain ⟨ss, hss⟩ : ∃ ss, w9 t = ss := ⟨_, rfl⟩
  unfold RlG
  rw [hss] at HSP hsl9 hsz9 ⊢
  obtain ⟨cp, hcp⟩ : ∃ cp, min 9 (t.size + 1) = cp := ⟨_, rfl⟩
  rw [hcp] at HSP
  obtain ⟨n, hn⟩ : ∃ n, ss.length = n := ⟨_, rfl⟩
  rw [hn] at HSP hsl9 ⊢
  have HN := hid hn.symm; have HSZ := hid hsz9
  have b0 : Below w.heap.size w ((w.alloc (.cells #[.slice none 0 0] 22)).alloc (.cells #[.slice none 0 0] 22)) := ((Below.refl _ _).alloc (Nat.le_refl _) _).alloc (by simp) _
  have HSPW := hid (HSP.out _ (hLV.below b0 (Nat.le_refl _)))
  clear hss hcp hn hsz9 hLV ht b0 HSP
  refine (callsIn_wide (n := 8)).1 ?_
  refine callsIn_of_wp_marks Tryz.func44 rfl trivial ?_ rfl
  simp only [Tryz.ntmps44, List.size_toArray, List.length_cons, List.length_nil, Nat.reduceAdd, Nat.reduceSub, Array.replicate_succ, Array.replicate_zero, List.push_toArray, List.append_toArray, List.nil_append, List.cons_append]
  gi_wp2_with (first | (gi_at_call 27; refine (callsIn_wide.2 HSPW.out).mono ?_; rintro e w1 ⟨rfl, rfl⟩) | (gi_at_call 66; refine (bs_in Fence.wide _ trivial rfl _ _ _ _).mono ?_; rintro e w' ⟨rfl, rfl⟩))
  obtain ⟨B, hBB⟩ : ∃ B, w.heap.size = B := ⟨_, rfl⟩
  have qR := Row.new w 22 [.slice none 0 0]
  have qL := Row.new (w.alloc (.cells #[.slice none 0 0] 22)) 22 [.slice none 0 0]
  have qS := Row.new ((w.alloc (.cells #[.slice none 0 0] 22)).alloc (.cells #[.slice none 0 0] 22)) 9 (ss.map Value.string ++ List.replicate (cp - ss.length) (Value.string ByteArray.empty))
  have qB := Row.new (((w.alloc (.cells #[.slice none 0 0] 22)).alloc (.cells #[.slice none 0 0] 22)).alloc (.cells (Lib.cellsOf ss cp) 9)) 34 [.slice (some ⟨w.heap.size + 1 + 1, 0, none⟩) n cp]
  simp only [World.size_alloc] at qL qS qB
  have qR' := ((qR.alloc (.cells #[.slice none 0 0] 22)).alloc (.cells (Lib.cellsOf ss cp) 9)).alloc (.cells #[.slice (some ⟨w.heap.size + 1 + 1, 0, none⟩) n cp] 34)
  have qL' := (qL.alloc (.cells (Lib.cellsOf ss cp) 9)).alloc (.cells #[.slice (some ⟨w.heap.size + 1 + 1, 0, none⟩) n cp] 34)
  have qS' := qS.alloc (.cells #[.slice (some ⟨w.heap.size + 1 + 1, 0, none⟩) n cp] 34)
  have bV : Below w.heap.size w ((((w.alloc (.cells #[.slice none 0 0] 22)).alloc (.cells #[.slice none 0 0] 22)).alloc (.cells (Lib.cellsOf ss cp) 9)).alloc (.cells #[.slice (some ⟨w.heap.size + 1 + 1, 0, none⟩) n cp] 34)) := ((((Below.refl _ w).alloc (Nat.le_refl _) _).alloc (by simp) _).alloc (by simp; omega) _).alloc (by simp; omega) _
  have sV : ((((w.alloc (.cells #[.slice none 0 0] 22)).alloc (.cells #[.slice none 0 0] 22)).alloc (.cells (Lib.cellsOf ss cp) 9)).alloc (.cells #[.slice (some ⟨w.heap.size + 1 + 1, 0, none⟩) n cp] 34)).heap.size = w.heap.size + 1 + 1 + 1 + 1 := by simp
  have qS2 : Row ((((w.alloc (.cells #[.slice none 0 0] 22)).alloc (.cells #[.slice none 0 0] 22)).alloc (.cells (Lib.cellsOf ss cp) 9)).alloc (.cells #[.slice (some ⟨w.heap.size + 1 + 1, 0, none⟩) n cp] 34)) (w.heap.size + 1 + 1) 9 (ss.map Value.string ++ List.replicate (cp - ss.length) (Value.string ByteArray.empty)) := qS'
  obtain ⟨V, hV⟩ : ∃ V, V = (((w.alloc (.cells #[.slice none 0 0] 22)).alloc (.cells #[.slice none 0 0] 22)).alloc (.cells (Lib.cellsOf ss cp) 9)).alloc (.cells #[.slice (some ⟨w.heap.size + 1 + 1, 0, none⟩) n cp] 34) := ⟨_, rfl⟩
  rw [← hV] at qR' qL' qS2 qB bV sV ⊢
  clear hV qR qL qS qS' HSPW
  rw [hBB] at qR' qL' qS2 qB bV sV ⊢
  have cB := qB.cell 0
  simp only [List.getElem?_cons_zero] at cB
  have hsl : ∀ g, g = B + 1 + 1 ∨ g = B + 1 + 1 + 1 → g < V.heap.size := fun g hg => by rcases hg with rfl | rfl <;> omega
  have hcV : ∀ j, j < n → V.cell? ⟨B + 1 + 1, j, none⟩ = some (.string (sg ss j)) := fun j hj => by
    rw [qS2.cell j, List.getElem?_append_left (by simp; rw [← HN.out]; exact hj), List.getElem?_map, List.getElem?_eq_getElem (by rw [← HN.out]; exact hj)]
    unfold sg
    rw [List.getElem?_eq_getElem (by rw [← HN.out]; exact hj)]
    rfl
  have HSL := hid hsl
  have HLV2 := hid (show ∀ W, Below B w W → LV W tS pS tR pR m from fun W h => HLV.out.below h (by omega))
  have HB := hid hBB
  have HW := hid (show w.heap.size ≤ B by omega)
  have HBL := hid (Nat.le_of_eq hBB.symm)
  clear qB qS2 hsl HLV hBB
  refine wpIn_rangeFunc_ownH rfl hm (gf := 91) (lb := #[.pointer (some ⟨B + 1 + 1 + 1, 0, none⟩)]) rfl trivial (enters_of Tryz.func91 (by kernel_rfl) rfl)
    (bs_stops Fence.wide 7 trivial rfl (by omega) (B + 1 + 1 + 1) (B + 1 + 1) n cp ss HN.out (by omega) V (by omega) (by omega) cB hcV) KeepB.trans (keepB_b HSL.out) (Below.refl _ _) (fun _ => rfl)
    (fun pre W => (∃ v, Row W (B + 1) 22 [v] ∧ W.ownsRow V.heap.size 5 1 v pre.length ((rlL ss pre).map (Value.int .u8)) ∧ Row W B 22 [.slice none 0 0] ∧ ∀ y ∈ pre, (pw (sg ss (n - 1 - y.1))).isSome = true) ∧ (Below B w W ∧ V.heap.size ≤ W.heap.size))
    (fun c pre W => (c = .ret ∧ (∃ j, j < n ∧ pw (sg ss j) = none) ∧ Row W B 22 [.slice none 0 0]) ∧ Below B w W)
    (OwnFrom.and (Own.from (fun s A B row hs hg hr => by obtain ⟨v, h2, h3, h1, h0⟩ := hs; exact ⟨v, row_kept h2 hg hr, owns_kept h3 hg hr, row_kept h1 hg hr, h0⟩) _) (OwnFrom.and (ownFrom_below HBL.out (by omega)) (fun s A B row hs hg hr => Nat.le_trans hs hg.4)))
    (fun c => OwnFrom.and (Own.from (fun s A B row hs hg hr => ⟨hs.1, hs.2.1, row_kept hs.2.2 hg hr⟩) _) (ownFrom_below HBL.out (by omega)))
    ⟨⟨.slice none 0 0, qL', ⟨rfl, .inl ⟨rfl, rfl⟩⟩, qR', fun y hy => by cases hy⟩, bV, Nat.le_refl _⟩
    (fun x a' W => a' = { tmps := #[.string t, undef, .pointer (some ⟨B, 0, none⟩), .pointer (some ⟨B + 1, 0, none⟩), .slice (some ⟨B + 1 + 1, 0, none⟩) n cp, undef, .string (sg ss (n - 1 - x.1)), undef, undef, .string t, .slice (some ⟨B + 1 + 1, 0, none⟩) n cp, .slice (some ⟨B + 1 + 1, 0, none⟩) n cp, .func (.func 91) #[] #[.pointer (some ⟨B + 1 + 1 + 1, 0, none⟩)], .int .i64 ((n - 1 - x.1 : Nat) : Int), .string (sg ss (n - 1 - x.1)), undef, undef, undef, undef, undef, undef, undef, undef, undef, undef, undef, undef, undef], defers := [] })
    (fun x a' => Own.from (fun s A B row hs hg hr => hs) _) ?assign ?body ?done ?stop
  case assign =>
    rintro l pre x W K ⟨⟨v, h2, h3, h1, h0⟩, h4, h6⟩ hK
    have hAA := hK _ W ((KeepsOthers.refl W).from _) (KeepB.refl _ W) ⟨⟨v, h2, h3, h1, h0⟩, h4, h6⟩ rfl
    clear hK
    simp only [bsA]
    gi_wp2
    exact hAA
  case body =>
    rintro l pre x a' W _ _ ⟨⟨v, h2, h3, h1, h0⟩, h4, h6⟩ rfl hlen
    have hx := x.2
    have hdn : n - 1 - x.1 < n := by omega
    have g5 : (Fence.wide.inRound l).fn 67 := trivial
    have HEY := hid (show rlL ss (pre ++ [x]) = rlL ss pre ++ [pwI (sg ss (n - 1 - x.1))] by simp [rlL])
    have hmem : sg ss (n - 1 - x.1) ∈ ss := by
      unfold sg
      rw [List.getElem?_eq_getElem (by rw [← HN.out]; exact hdn)]
      exact List.getElem_mem _
    have HPA := hid (parse_any (sg ss (n - 1 - x.1)) (HSZ.out _ hmem) W (HLV2.out W h4))
    have HPX := hid (show ∀ y ∈ pre, (pw (sg ss (n - 1 - y.1))).isSome = true from h0)
    have HDN := hid hdn
    have lw := h4.size
    cases hpw : pw (sg ss (n - 1 - x.1)) with
    | none =>
      have HP2 := hid (HPA.out.mono (fun e w' h => show Below W.heap.size W w' ∧ ∃ y T q, e = .returned (.tuple #[.int .u64 y, .iface T (.pointer (some q))]) from by
        refine ⟨h.1, ?_⟩
        rcases h.2 with ⟨u, h5, _⟩ | ⟨y, T, q, _, h5⟩
        · rw [hpw] at h5; cases h5
        · exact ⟨y, T, q, h5⟩))
      have HNO := hid (show ∃ j, j < n ∧ pw (sg ss j) = none from ⟨_, hdn, hpw⟩)
      obtain ⟨P, hP⟩ : ∃ P, sg ss (n - 1 - x.1) = P := ⟨_, rfl⟩
      rw [hP] at HP2 ⊢
      have H4 := hid h4
      clear hP hpw hmem HPA HEY h0 h2 h3 h4
      gi_wp2_with (gi_at_call 67; refine (CallsIn.inRound l (callsIn_wide.2 HP2.out)).mono ?_; rintro e w6 ⟨hB6, y, T, q, rfl⟩; have r6 := h1.below hB6 h1.lt; have c6 := r6.cell 0; have f6 := r6.frozen 0; simp only [List.getElem?_cons_zero] at c6)
      exact ⟨((keepsOthers_of hB6).trans (KeepsOthers.setCell _ _ _)).from _, ⟨rfl, HNO.out, r6.set 0 (.slice none 0 0)⟩, (H4.out.trans (hB6.mono (by have := HW.out; omega))).setCell (p := ⟨B, 0, none⟩) (Nat.le_refl _) _⟩
    | some u =>
      have HP2 := hid (HPA.out.mono (fun e w' h => show Below W.heap.size W w' ∧ e = .returned (.tuple #[.int .u64 u, .nilIface]) ∧ u ≤ 255 from by
        refine ⟨h.1, ?_⟩
        rcases h.2 with ⟨u', h5, h7, h8⟩ | ⟨y, T, q, h5, _⟩
        · rw [hpw] at h5; injection h5 with h5; subst h5; exact ⟨h8, h7⟩
        · rw [hpw] at h5; cases h5))
      have HU := hid (show pwI (sg ss (n - 1 - x.1)) = (u : Int) by unfold pwI; rw [hpw]; rfl)
      have HSO := hid (show ∀ y ∈ pre ++ [x], (pw (sg ss (n - 1 - y.1))).isSome = true from fun y hy => by
        rcases List.mem_append.1 hy with hy | hy
        · exact HPX.out y hy
        · simp at hy; subst hy; rw [hpw]; rfl)
      rw [HU.out] at HEY
      obtain ⟨P, hP⟩ : ∃ P, sg ss (n - 1 - x.1) = P := ⟨_, rfl⟩
      rw [hP] at HP2 ⊢
      obtain ⟨U, hU⟩ : ∃ U : Int, (u : Int) = U := ⟨_, rfl⟩
      by_cases hu255 : u ≤ 255
      · rw [hU] at HP2 HEY
        have wU : IntKind.u8.wrap U = U := by simp only [IntKind.wrap, IntKind.signed, IntKind.bits]; simp; omega
        have H4 := hid h4; have HLN := hid hlen
        obtain ⟨E, hE⟩ : ∃ E, rlL ss pre = E := ⟨_, rfl⟩
        rw [hE] at h3 HEY
        clear hP hpw hmem HPA h0 h4 hU hE hu255
        gi_wp2_with (first | (gi_at_call 67; refine (CallsIn.inRound l (callsIn_wide.2 HP2.out)).mono ?_; rintro e w6 ⟨hB6, rfl, _⟩; have r2 := h2.below hB6 h2.lt; have cL := r2.cell 0; simp only [List.getElem?_cons_zero] at cL; have O6 := (owns_belowP h3 hB6).alloc (.cells #[.int .u8 U] 5); have news := Row.new w6 5 [.int .u8 U]; have n0 := news.cell 0; simp only [List.getElem?_cons_zero] at n0; have ka2 := r2.alloc (.cells #[.int .u8 U] 5); have ka1 := (h1.below hB6 h1.lt).alloc (.cells #[.int .u8 U] 5); have hz6 := hB6.size; have lL := r2.lt) | (gi_at_builtin; refine wpListIn_append_own _ rfl _ _ 22 rfl V.heap.size 5 i0 (.int .u8 0) 1 1 Tryz.underlying22 hi iz0 iz1 iz2 rfl (by decide) _ _ _ rfl O6 ⟨w6.heap.size, 0, none⟩ 1 1 [.int .u8 U] rfl rfl (by intro j u hj; match j, hj with | 0, hj => simp at hj; subst hj; simp [Addr.add, n0]) (by intro u hu; simp at hu; subst hu; rfl) (by have := HLN.out; unfold maxLen; omega) (by have := HLN.out; omega) (by simp; omega) ?_; intro v' w7 hown' hgrow _; obtain ⟨sa, sl, sc, rfl⟩ : ∃ a l c, v' = Value.slice a l c := (by rcases hown'.2 with ⟨h, _⟩ | ⟨g', cap', cur, h, _⟩; exact ⟨_, _, _, h⟩; exact ⟨_, _, _, h⟩); have kb2 := ka2.grown' hgrow (owns_lt O6 (by omega)); have cL7 := kb2.cell 0; have fL7 := kb2.frozen 0; simp only [List.getElem?_cons_zero] at cL7))
        have hz7 := hgrow.size
        simp only [World.size_alloc] at hz7
        have ko : KeepsOthers (w6.alloc (.cells #[.int .u8 U] 5)) w7 := KeepsOthers.of_grownBy hgrow (fun j o hj ho => by
          rcases O6.2 with ⟨rfl, _⟩ | ⟨g', cap', cur, rfl, q2, q3, _⟩
          · cases hj
          · have : g' = j := Option.some.inj hj
            subst this
            rw [q3] at ho
            cases ho
            rfl)
        have kb : KeepB (fun g => g = B + 1 + 1 ∨ g = B + 1 + 1 + 1) W (w7.setCell ⟨B + 1, 0, none⟩ (.slice sa sl sc)) := fun g hg => by
          have hgV := HSL.out g hg
          have e1 := hB6.block g (by omega)
          have e2 : (w6.alloc (.cells #[.int .u8 U] 5)).heap[g]? = w6.heap[g]? := Below.heap_alloc _ _ _ (by omega)
          have e3 := hgrow.block g (by simp; omega) (owns_lt O6 hgV)
          have e4 := Below.heap_setCell w7 ⟨B + 1, 0, none⟩ (.slice sa sl sc) g (by rcases hg with rfl | rfl <;> simp <;> omega)
          rw [e4, e3, e2, e1]
        have bel : Below B w (w7.setCell ⟨B + 1, 0, none⟩ (.slice sa sl sc)) := ((((H4.out.trans (hB6.mono (by have := HW.out; omega))).alloc (by omega) (.cells #[.int .u8 U] 5)).grown hgrow (by simp; omega) (fun k e => by have := owns_lt O6 (g := k); by_cases hk : B ≤ k; exact hk; exact absurd e.symm (this (by omega))))).setCell (p := ⟨B + 1, 0, none⟩) (by show B ≤ B + 1; omega) _
        have kb1 := (ka1.grown' hgrow (owns_lt O6 (by omega))).other (a := ⟨B + 1, 0, none⟩) (by show B + 1 ≠ B; omega) (.slice sa sl sc)
        exact ⟨((((keepsOthers_of hB6).trans (KeepsOthers.alloc _ _)).trans ko).trans (KeepsOthers.setCell _ _ _)).from _, kb, ⟨.slice sa sl sc, kb2.set 0 (.slice sa sl sc), by rw [HEY.out, List.map_append, List.length_append]; exact owns_set hown' (by show B + 1 < V.heap.size; omega) _, kb1, HSO.out⟩, bel, by simp; omega⟩
      · exact absurd (Lib.parseUintB_le (B := 8) (l := (sg ss (n - 1 - x.1)).data.toList) (u := u) (by
          unfold pw at hpw
          cases hh : Lib.parseUintB 8 (sg ss (n - 1 - x.1)).data.toList with
          | ok z => rw [hh] at hpw; injection hpw with hpw; rw [hpw]
          | «syntax» => rw [hh] at hpw; cases hpw
          | range => rw [hh] at hpw; cases hpw)) (by simpa using hu255)
  case done =>
    rintro D ys W hD rfl ⟨⟨v, h2, h3, h1, h0⟩, h4, h6⟩ hK
    have cL := h2.cell 0
    have c1 := h1.cell 0
    have f1 := h1.frozen 0
    simp only [List.getElem?_cons_zero] at cL c1
    have hrl : rlL ss (List.finRange n) = ss.reverse.map pwI := rlL_all ss n HN.out
    rw [hrl, List.length_finRange] at h3
    have hall : (ss.all fun p => (pw p).isSome) = true := by
      rw [List.all_eq_true]
      intro p hp
      obtain ⟨j, hj, rfl⟩ := List.getElem_of_mem hp
      have hjn : j < n := by rw [HN.out]; exact hj
      have := h0 ⟨n - 1 - j, by omega⟩ (List.mem_finRange _)
      simp only at this
      rw [show n - 1 - (n - 1 - j) = j by omega] at this
      unfold sg at this
      rw [List.getElem?_eq_getElem hj] at this
      exact this
    obtain ⟨sa, sl, sc, rfl⟩ : ∃ a l c, v = Value.slice a l c := by
      rcases h3.2 with ⟨h, _⟩ | ⟨g', cap', cur, h, _⟩
      · exact ⟨_, _, _, h⟩
      · exact ⟨_, _, _, h⟩
    have hDB : D ≠ B := fun e => by
      subst e
      unfold Row at h1
      rw [h1] at hK
      cases hK
    have hK2 : (W.setCell ⟨B, 0, none⟩ (.slice sa sl sc)).heap[D]? = some (.deferred (some [])) := (Below.heap_setCell W ⟨B, 0, none⟩ (.slice sa sl sc) D (fun e => hDB e)).trans hK
    have rF := row_kept (h1.set 0 (.slice sa sl sc)) (grownBy_putObj' _ D (.deferred none)) (fun r e => by cases e; exact ⟨_, hK2, rfl⟩)
    have cF := rF.cell 0
    simp only [List.set_cons_zero, List.getElem?_cons_zero] at cF
    have HO := hid (owns_kept (owns_set h3 (a := ⟨B, 0, none⟩) (by show B < V.heap.size; omega) (.slice sa sl sc)) (grownBy_putObj' _ D (.deferred none)) (fun r e => by cases e; exact ⟨_, hK2, rfl⟩))
    have bF := hid ((h4.setCell (p := ⟨B, 0, none⟩) (Nat.le_refl _) (.slice sa sl sc)).trans (show Below B _ _ from belowK_b (w := w) (n₀ := B) HBL.out _ D (.deferred (some [])) (.deferred none) (by have := HW.out; omega) hK2 rfl rfl))
    have HALL := hid hall
    have HBV := hid (show B ≤ V.heap.size by omega)
    clear h2 h3 h1 h0 rF
    gi_wp2
    refine ⟨by simp, .inl ⟨_, _, rfl, run_takeDeferred hK2, ?_⟩⟩
    refine ⟨.slice sa sl sc, by simp [results, Tryz.f44, go_sem, cF], .slice sa sl sc, rfl, by rw [HB.out]; exact bF.out, .inl ⟨HALL.out, ?_⟩⟩
    rw [HB.out]
    obtain ⟨o1, o2⟩ := HO.out
    refine ⟨o1, ?_⟩
    rcases o2 with o2 | ⟨g, cap, cur, q1, q2, q3⟩
    · exact .inl o2
    · exact .inr ⟨g, cap, cur, q1, Nat.le_trans HBV.out q2, q3⟩
  case stop =>
    rintro D c pre W hD ⟨j, hj, rfl⟩ ⟨⟨rfl, ⟨q, hq1, hq2⟩, hrow⟩, hB5⟩ hK
    have rF := row_kept hrow (grownBy_putObj' _ D (.deferred none)) (fun r e => by cases e; exact ⟨_, hK, rfl⟩)
    have cF := rF.cell 0
    simp only [List.getElem?_cons_zero] at cF
    have HNO := hid (show (ss.all fun p => (pw p).isSome) = false from by
      rw [List.all_eq_false]
      have hq3 : q < ss.length := by rw [← HN.out]; exact hq1
      refine ⟨ss[q], List.getElem_mem _, ?_⟩
      unfold sg at hq2
      rw [List.getElem?_eq_getElem hq3] at hq2
      simp only [Option.getD_some] at hq2
      rw [hq2]; simp)
    gi_wp2
    refine ⟨by simp, .inl ⟨_, _, rfl, run_takeDeferred hK, ?_⟩⟩
    exact ⟨.slice none 0 0, by simp [results, Tryz.f44, go_sem, cF], _, rfl, by rw [HB.out]; exact hB5.trans (belowK_b (w := w) (n₀ := B) HBL.out _ D _ _ (by have := HW.out; omega) hK rfl rfl), .inr ⟨HNO.out, rfl⟩⟩
end Go.Proofs.YtcanfcpofihoeaaGreatDoor

namespace Go.Proofs.YtcanfcpofihoeaaGreatDoor
open Go.RowKit
set_option linter.unusedVariables false
set_option linter.unusedSimpArgs false
theorem padZ_one (l : List UInt8) (h : 1 ≤ l.length) : padZ 1 l = l := by
  unfold padZ
  rw [show 1 - l.length = 0 by omega]; rfl
theorem dec_pos (n : Nat) : 1 ≤ (Lib.decDigits n).length := by
  rw [Lib.decDigits]; split <;> simp
theorem txP_one (zs : List Int) (j : Nat) (h : 0 ≤ ug zs j) : txP zs (fun _ => 1) j = Lib.decDigits (ug zs j).toNat := by
  unfold txP
  obtain ⟨n, hn⟩ : ∃ n : Nat, ug zs j = n := ⟨(ug zs j).toNat, by omega⟩
  rw [hn, itoa_nat, padZ_one _ (dec_pos n), Int.toNat_natCast]
def wdsS (zs : List Int) : List (List UInt8) := (zs.map fun z => Lib.decDigits z.toNat).reverse
theorem parts_eq (zs : List Int) (h : ∀ z ∈ zs, 0 ≤ z) : (List.range zs.length).map (fun j => txP zs (fun _ => 1) (zs.length - 1 - j)) = wdsS zs := by
  apply List.ext_getElem
  · simp [wdsS]
  · intro i h1 h2
    have hi : i < zs.length := by simpa using h1
    have hk : zs.length - 1 - i < zs.length := by omega
    have hz : ug zs (zs.length - 1 - i) = zs[zs.length - 1 - i] := by unfold ug; rw [List.getElem?_eq_getElem hk]; rfl
    rw [List.getElem_map, List.getElem_range, txP_one _ _ (by rw [hz]; exact h _ (List.getElem_mem _)), hz]
    simp [wdsS, List.getElem_reverse]
theorem txT_wds (zs : List Int) (h : ∀ z ∈ zs, 0 ≤ z) : txT zs (fun _ => 1) = Lib.join (wdsS zs) [58] := by rw [txT_eq, parts_eq zs h]
theorem nm_wds (zs : List Int) (h : ∀ z ∈ zs, 0 ≤ z ∧ z ≤ 100) : nmL (wdsS zs) = zs := by
  unfold nmL wdsS
  rw [List.reverse_reverse, List.map_map]
  conv => rhs; rw [← List.map_id zs]
  apply List.map_congr_left
  intro z hz
  obtain ⟨n, rfl⟩ : ∃ n : Nat, z = n := ⟨z.toNat, by have := h z hz; omega⟩
  have hn : n < 1000000000 := by have := h _ hz; omega
  simp only [Function.comp, Int.toNat_natCast, id]
  rw [(can_of n hn).2]
theorem wds_nm (ps : List (List UInt8)) (h : ps.all okW = true) : wdsS (nmL ps) = ps := by
  unfold nmL wdsS
  rw [List.map_map, ← List.map_reverse, List.reverse_reverse]
  conv => rhs; rw [← List.map_id ps]
  apply List.map_congr_left
  intro p hp
  have := List.all_eq_true.1 h p hp
  unfold okW at this
  simp only [Bool.and_eq_true] at this
  simp only [Function.comp, Int.toNat_natCast, id]
  exact of_can this.1
theorem dec_digs (n : Nat) (h : n < 1000000000) : (Lib.decDigits n).all digB = true := by
  have := (can_of n h).1
  unfold canB at this
  simp only [Bool.and_eq_true] at this
  exact this.2
theorem no_colon {p : List UInt8} (h : p.all digB = true) : (58 : UInt8) ∉ p := fun hm => by
  have := List.all_eq_true.1 h 58 hm
  revert this; decide
theorem okL_mem {zs : List Int} (h : okL zs = true) : 1 ≤ zs.length ∧ zs.length ≤ 8 ∧ ∀ z ∈ zs, 2 ≤ z ∧ z ≤ 100 := by
  obtain ⟨h1, h8, hin, _, _⟩ := okL_out h
  refine ⟨h1, h8, fun z hz => ?_⟩
  obtain ⟨j, hj, rfl⟩ := List.getElem_of_mem hz
  have := hin j hj
  rw [List.getElem?_eq_getElem hj] at this
  exact this
/-- a valid stack is read of its text -/
theorem stkR_of {zs : List Int} (h : okL zs = true) : stkR (txS zs) = some zs := by
  obtain ⟨h1, h8, hz⟩ := okL_mem h
  have hsp : spl 58 (txS zs) = wdsS zs := by
    rw [txS_yes h, txT_wds zs (fun z k => by have := hz z k; omega)]
    refine spl_join 58 _ (fun e => ?_) (fun p hp => ?_)
    · have := congrArg List.length e
      simp [wdsS] at this
      rw [this] at h1; simp at h1
    · simp only [wdsS, List.mem_reverse, List.mem_map] at hp
      obtain ⟨z, hzm, rfl⟩ := hp
      have := hz z hzm
      exact no_colon (dec_digs _ (by omega))
  have hok : (wdsS zs).all okW = true := by
    rw [List.all_eq_true]
    intro p hp
    simp only [wdsS, List.mem_reverse, List.mem_map] at hp
    obtain ⟨z, hzm, rfl⟩ := hp
    have hb := hz z hzm
    obtain ⟨c1, c2⟩ := can_of z.toNat (by omega)
    unfold okW
    rw [c1, c2]
    simp; omega
  have hnm := nm_wds zs (fun z k => by have := hz z k; omega)
  rw [stkR_all (by rw [hsp]; exact hok), hsp, hnm, if_pos h]
/-- what is read has the text -/
theorem stkR_text {l : List UInt8} {zs : List Int} (h : stkR l = some zs) : okL zs = true ∧ txS zs = l ∧ (spl 58 l).all okW = true ∧ zs = nmL (spl 58 l) := by
  by_cases ha : (spl 58 l).all okW = true
  · rw [stkR_all ha] at h
    by_cases ho : okL (nmL (spl 58 l)) = true
    · rw [if_pos ho] at h
      injection h with h
      subst h
      refine ⟨ho, ?_, ha, rfl⟩
      rw [txS_yes ho, txT_wds _ (fun z hz => by
        simp only [nmL, List.mem_map] at hz
        obtain ⟨p, _, rfl⟩ := hz
        omega), wds_nm _ ha, join_spl]
    · rw [if_neg ho] at h; cases h
  · rw [stkR, if_neg (by simp [ha])] at h; cases h
/-- the program's words of a text that is a stack's -/
theorem w9_of {t : ByteArray} {zs : List Int} (h : stkR t.data.toList = some zs) : ((w9 t).all fun p => (pw p).isSome) = true ∧ (w9 t).reverse.map pwI = zs := by
  obtain ⟨ho, _, ha, rfl⟩ := stkR_text h
  obtain ⟨l, hl⟩ : ∃ l, t.data.toList = l := ⟨_, rfl⟩
  rw [hl] at ha ho ⊢
  have h8 := (okL_mem ho).2.1
  rw [nmL_len] at h8
  have hsum := spl_sum 58 l
  have hsz : t.size = l.length := by rw [← hl, Array.length_toList]; rfl
  have hne : ∀ p ∈ spl 58 l, p ≠ [] ∧ p.all digB = true ∧ numV p ≤ 100 := fun p hp => by
    have h1 := List.all_eq_true.1 ha p hp
    unfold okW canB at h1
    simp only [Bool.and_eq_true, decide_eq_true_eq] at h1
    exact ⟨fun e => by subst e; simp at h1, h1.1.2, h1.2⟩
  have hw : (w9 t).map (·.data.toList) = spl 58 l := by
    unfold w9
    rw [Lib.splitB_data, hl]
    have e := splitK_join 58 (min 9 (t.size + 1) - 1) (spl 58 l) (spl_ne 58 l) (fun p hp => no_colon (hne p hp).2.1) (by omega)
    rw [join_spl] at e
    exact e
  have hpw : ∀ p ∈ w9 t, pw p = some (numV p.data.toList) := fun p hp => by
    have hm : p.data.toList ∈ spl 58 l := by rw [← hw]; exact List.mem_map.2 ⟨p, hp, rfl⟩
    obtain ⟨a, b, c⟩ := hne _ hm
    unfold pw
    rw [parse8_num a b (by omega)]
  refine ⟨?_, ?_⟩
  · rw [List.all_eq_true]
    intro p hp
    rw [hpw p hp]; rfl
  · unfold nmL
    rw [← hw, ← List.map_reverse, List.map_map]
    apply List.map_congr_left
    intro p hp
    unfold pwI
    rw [hpw p (by simpa using hp)]
    rfl
end Go.Proofs.YtcanfcpofihoeaaGreatDoor

namespace Go.Proofs.YtcanfcpofihoeaaGreatDoor
open Go.RowKit
set_option linter.unusedVariables false
set_option linter.unusedSimpArgs false
/-- the text of one digit -/
def dgT (z v : Int) : List UInt8 := padZ (padZ 1 (Lib.itoa (z - 1))).length (Lib.itoa v)
theorem numV_zero (l : List UInt8) : numV (48 :: l) = numV l := by simp [numV]
theorem dgT_facts (z v : Int) (hz : 2 ≤ z ∧ z ≤ 100) (hv : 0 ≤ v ∧ v < z) : (dgT z v).length ≤ 2 ∧ 1 ≤ (dgT z v).length ∧ (dgT z v).all digB = true ∧ (numV (dgT z v) : Int) = v := by
  obtain ⟨n, rfl⟩ : ∃ n : Nat, v = n := ⟨v.toNat, by omega⟩
  have hn : n < 1000000000 := by omega
  have hl := itoa_len (n : Int) (by omega)
  have hc := can_of n hn
  have hd := dec_digs n hn
  have e := itoa_nat n
  by_cases h : 10 < z ∧ (n : Int) < 10
  · have := pad_pos z n hz hv h.1 h.2
    unfold dgT
    rw [this, numV_zero]
    rw [e] at hl ⊢
    rw [if_pos h.2] at hl
    refine ⟨by simp; omega, by simp, by rw [List.all_cons, hd]; decide, by rw [hc.2]⟩
  · have := pad_neg z n hz hv h
    unfold dgT
    rw [this]
    rw [e] at hl ⊢
    refine ⟨by rw [hl]; split <;> omega, by rw [hl]; split <;> omega, hd, by rw [hc.2]⟩
/-- these digits have this text -/
def Dg (zs : List Int) (l : List UInt8) (ds : List Int) : Prop :=
  ds.length = 8 ∧ (spl 58 l).length = zs.length ∧ (∀ j, j < zs.length → (0 ≤ ug ds j ∧ ug ds j < ug zs j) ∧ (spl 58 l)[zs.length - 1 - j]? = some (dgT (ug zs j) (ug ds j))) ∧ (∀ j, zs.length ≤ j → j < 8 → ug ds j = 0)
theorem Dg.valid {zs : List Int} {l : List UInt8} {ds : List Int} (ho : okL zs = true) (h : Dg zs l ds) : okV zs ds = true := by
  rw [okV_yes ho]
  exact okD_of fun j hj => ⟨fun hz => (h.2.2.1 j hz).1.2, fun hz => h.2.2.2 j hz hj⟩
theorem txT_parts (zs ds : List Int) (h8 : zs.length ≤ 8) (hd : ds.length = 8) : txT (ds.take zs.length) (wdD zs) = Lib.join ((List.range zs.length).map fun j => dgT (ug zs (zs.length - 1 - j)) (ug ds (zs.length - 1 - j))) [58] := by
  rw [txT_eq]
  have hl : (ds.take zs.length).length = zs.length := by simp; omega
  rw [hl]
  congr 1
  apply List.map_congr_left
  intro j hj
  have hj' : j < zs.length := by simpa using hj
  unfold txP dgT
  rw [ug_take _ _ _ (by omega)]
  rfl
theorem Dg.text {zs : List Int} {l : List UInt8} {ds : List Int} (ho : okL zs = true) (h : Dg zs l ds) : txD zs ds = l := by
  have h8 := (okL_mem ho).2.1
  rw [txD_yes (h.valid ho), txT_parts zs ds h8 h.1]
  have e : ((List.range zs.length).map fun j => dgT (ug zs (zs.length - 1 - j)) (ug ds (zs.length - 1 - j))) = spl 58 l := by
    apply List.ext_getElem?
    intro i
    by_cases hi : i < zs.length
    · have := (h.2.2.1 (zs.length - 1 - i) (by omega)).2
      rw [show zs.length - 1 - (zs.length - 1 - i) = i by omega] at this
      rw [this, List.getElem?_map]
      simp [hi]
    · rw [List.getElem?_eq_none (by simp; omega), List.getElem?_eq_none (by rw [h.2.1]; omega)]
  rw [e, join_spl]
theorem Dg.of {zs ds : List Int} (hd : ds.length = 8) (hp : ∀ j, j < 8 → 0 ≤ ug ds j) (ho : okV zs ds = true) : Dg zs (txD zs ds) ds := by
  obtain ⟨hL, hD⟩ := okV_out ho
  obtain ⟨h1, h8, hz⟩ := okL_mem hL
  have hto := okD_out hD
  have hzb : ∀ j, j < zs.length → 2 ≤ ug zs j ∧ ug zs j ≤ 100 := fun j hj => by
    unfold ug
    rw [List.getElem?_eq_getElem hj]
    exact hz _ (List.getElem_mem _)
  have hvb : ∀ j, j < zs.length → 0 ≤ ug ds j ∧ ug ds j < ug zs j := fun j hj => ⟨hp j (by omega), (hto j (by omega)).1 hj⟩
  have hsp : spl 58 (txD zs ds) = (List.range zs.length).map fun j => dgT (ug zs (zs.length - 1 - j)) (ug ds (zs.length - 1 - j)) := by
    rw [txD_yes ho, txT_parts zs ds h8 hd]
    refine spl_join 58 _ (fun e => ?_) (fun p hp2 => ?_)
    · have := congrArg List.length e
      simp at this
      rw [this] at h1; simp at h1
    · simp only [List.mem_map, List.mem_range] at hp2
      obtain ⟨j, hj, rfl⟩ := hp2
      exact no_colon (dgT_facts _ _ (hzb _ (by omega)) (hvb _ (by omega))).2.2.1
  refine ⟨hd, by rw [hsp]; simp, fun j hj => ⟨hvb j hj, ?_⟩, fun j hj hj8 => (hto j hj8).2 hj⟩
  rw [hsp, List.getElem?_map, List.getElem?_range (by omega)]
  simp only [Option.map_some]
  rw [show zs.length - 1 - (zs.length - 1 - j) = j by omega]
theorem Dg.uniq {zs : List Int} {l : List UInt8} {ds es : List Int} (ho : okL zs = true) (h : Dg zs l ds) (k : Dg zs l es) : ds = es := by
  obtain ⟨h1, h8, hz⟩ := okL_mem ho
  apply List.ext_getElem?
  intro j
  by_cases hj8 : j < 8
  · have e : ug ds j = ug es j := by
      by_cases hj : j < zs.length
      · have a := h.2.2.1 j hj; have b := k.2.2.1 j hj
        have hzb : 2 ≤ ug zs j ∧ ug zs j ≤ 100 := by unfold ug; rw [List.getElem?_eq_getElem hj]; exact hz _ (List.getElem_mem _)
        have c := a.2.symm.trans b.2
        injection c with c
        have p := (dgT_facts _ _ hzb a.1).2.2.2
        have q := (dgT_facts _ _ hzb b.1).2.2.2
        rw [c, q] at p
        exact p.symm
      · rw [h.2.2.2 j (by omega) hj8, k.2.2.2 j (by omega) hj8]
    unfold ug at e
    rw [List.getElem?_eq_getElem (by rw [h.1]; exact hj8), List.getElem?_eq_getElem (by rw [k.1]; exact hj8)] at e ⊢
    simpa using e
  · rw [List.getElem?_eq_none (by rw [h.1]; omega), List.getElem?_eq_none (by rw [k.1]; omega)]
/-- digits of numbers that were read: eight of them, zeros behind -/
def padD (xs : List Int) : List Int := xs.take 8 ++ List.replicate (8 - min 8 xs.length) 0
theorem padD_len (xs : List Int) : (padD xs).length = 8 := by simp [padD]; omega
theorem padD_bd {xs : List Int} (h : ∀ z ∈ xs, 0 ≤ z ∧ z ≤ 255) : ∀ z ∈ padD xs, 0 ≤ z ∧ z ≤ 255 := fun z hz => by
  unfold padD at hz
  rcases List.mem_append.1 hz with hz | hz
  · exact h z (List.mem_of_mem_take hz)
  · have := (List.mem_replicate.1 hz).2; omega
/-- the program's words of a text that is of digits -/
theorem w9_dg {t : ByteArray} {zs ds : List Int} (ho : okL zs = true) (h : Dg zs t.data.toList ds) : ((w9 t).all fun p => (pw p).isSome) = true ∧ padD ((w9 t).reverse.map pwI) = ds := by
  obtain ⟨h1, h8, hz⟩ := okL_mem ho
  obtain ⟨l, hl⟩ : ∃ l, t.data.toList = l := ⟨_, rfl⟩
  rw [hl] at h
  have hsum := spl_sum 58 l
  have hsz : t.size = l.length := by rw [← hl, Array.length_toList]; rfl
  have hzb : ∀ j, j < zs.length → 2 ≤ ug zs j ∧ ug zs j ≤ 100 := fun j hj => by unfold ug; rw [List.getElem?_eq_getElem hj]; exact hz _ (List.getElem_mem _)
  have hwd : ∀ i, i < zs.length → (spl 58 l)[i]? = some (dgT (ug zs (zs.length - 1 - i)) (ug ds (zs.length - 1 - i))) := fun i hi => by
    have := (h.2.2.1 (zs.length - 1 - i) (by omega)).2
    rw [show zs.length - 1 - (zs.length - 1 - i) = i by omega] at this
    exact this
  have hne : ∀ p ∈ spl 58 l, p ≠ [] ∧ p.all digB = true ∧ numV p ≤ 255 := fun p hp => by
    obtain ⟨i, hi, rfl⟩ := List.getElem_of_mem hp
    have hi2 : i < zs.length := by rw [← h.2.1]; exact hi
    have e := hwd i hi2
    rw [List.getElem?_eq_getElem hi] at e
    injection e with e
    have f := dgT_facts _ _ (hzb (zs.length - 1 - i) (by omega)) (h.2.2.1 (zs.length - 1 - i) (by omega)).1
    have g := (h.2.2.1 (zs.length - 1 - i) (by omega)).1
    have gz := hzb (zs.length - 1 - i) (by omega)
    rw [e]
    exact ⟨fun e => by rw [e] at f; simp at f, f.2.2.1, by omega⟩
  have hw : (w9 t).map (·.data.toList) = spl 58 l := by
    unfold w9
    rw [Lib.splitB_data, hl]
    have e := splitK_join 58 (min 9 (t.size + 1) - 1) (spl 58 l) (spl_ne 58 l) (fun p hp => no_colon (hne p hp).2.1) (by have := h.2.1; omega)
    rw [join_spl] at e
    exact e
  have hpw : ∀ p ∈ w9 t, pw p = some (numV p.data.toList) := fun p hp => by
    have hm : p.data.toList ∈ spl 58 l := by rw [← hw]; exact List.mem_map.2 ⟨p, hp, rfl⟩
    obtain ⟨a, b, c⟩ := hne _ hm
    unfold pw
    rw [parse8_num a b c]
  have hxs : (w9 t).reverse.map pwI = ds.take zs.length := by
    have e1 : (w9 t).reverse.map pwI = (spl 58 l).reverse.map fun p => (numV p : Int) := by
      rw [← hw, ← List.map_reverse, List.map_map]
      apply List.map_congr_left
      intro p hp
      unfold pwI
      rw [hpw p (by simpa using hp)]
      rfl
    rw [e1]
    apply List.ext_getElem?
    intro j
    by_cases hj : j < zs.length
    · have a := h.2.2.1 j hj
      rw [List.getElem?_map, List.getElem?_reverse (by rw [h.2.1]; exact hj), h.2.1, a.2, List.getElem?_take, if_pos hj]
      simp only [Option.map_some]
      rw [(dgT_facts _ _ (hzb j hj) a.1).2.2.2]
      unfold ug
      rw [List.getElem?_eq_getElem (by rw [h.1]; omega)]
      rfl
    · rw [List.getElem?_eq_none (by simp [h.2.1]; omega), List.getElem?_eq_none (by simp; omega)]
  refine ⟨?_, ?_⟩
  · rw [List.all_eq_true]
    intro p hp
    rw [hpw p hp]; rfl
  · rw [hxs]
    unfold padD
    apply List.ext_getElem?
    intro j
    have hdl := h.1
    have htl : (List.take 8 (List.take zs.length ds)).length = zs.length := by simp; omega
    have ht2 : (List.take zs.length ds).length = zs.length := by simp; omega
    by_cases hj : j < zs.length
    · rw [List.getElem?_append_left (by rw [htl]; exact hj)]
      rw [List.getElem?_take, if_pos (by omega), List.getElem?_take, if_pos hj]
    · rw [List.getElem?_append_right (by rw [htl]; omega), htl, ht2, List.getElem?_replicate]
      by_cases hj8 : j < 8
      · have := h.2.2.2 j (by omega) hj8
        unfold ug at this
        rw [List.getElem?_eq_getElem (by omega)] at this ⊢
        simp only [Option.getD_some] at this
        rw [if_pos (by omega), this]
      · rw [if_neg (by omega), List.getElem?_eq_none (by omega)]
end Go.Proofs.YtcanfcpofihoeaaGreatDoor

namespace Go.Proofs.YtcanfcpofihoeaaGreatDoor
open Go.RowKit
set_option linter.unusedVariables false
set_option linter.unusedSimpArgs false
/-- the digits that a text has -/
noncomputable def dgE (zs : List Int) (y : List UInt8) : List Int := Classical.epsilon fun ds => Dg zs y ds
theorem dgE_of {zs : List Int} {y : List UInt8} {ds : List Int} (ho : okL zs = true) (h : Dg zs y ds) : dgE zs y = ds := (Classical.epsilon_spec (p := fun ds => Dg zs y ds) ⟨ds, h⟩).uniq ho h
theorem DgN {zs : List Int} {l : List UInt8} {ds : List Int} (h : Dg zs l ds) : ∀ j, j < 8 → 0 ≤ ug ds j := fun j hj => by
  by_cases c : j < zs.length
  · exact (h.2.2.1 j c).1.1
  · have := h.2.2.2 j (by omega) hj
    omega
open Classical in
/-- a line of a log, as the model reads it -/
noncomputable def lgW (zs : List Int) (p : List UInt8) : Option (Int × Int) := match spl 32 p with
  | [a, b] => if canB a = true ∧ ∃ ds, Dg zs b ds then some ((numV a : Int), valL zs (dgE zs b) zs.length) else none
  | _ => none
open Classical in
/-- a line of a log, as the program reads it -/
noncomputable def lgF (zs : List Int) (p : ByteArray) : Option (Int × Int) := if (Lib.cut p.data.toList [32]).2.2 = true ∧ ∃ ds, Dg zs (Lib.cut p.data.toList [32]).2.1 ds then (match pi64 (Lib.cut p.data.toList [32]).1 with | some a => some (a, valL zs (dgE zs (Lib.cut p.data.toList [32]).2.1) zs.length) | none => none) else none
def lgTx (zs : List Int) (a : Int × Int) : List UInt8 := Lib.itoa a.1 ++ [32] ++ txD zs (ds8 zs a.2)
def lgOkA (zs : List Int) (a : Int × Int) : Prop := (0 ≤ a.1 ∧ a.1 ≤ 100000) ∧ 0 ≤ a.2 ∧ a.2 < szL zs
theorem ds8_dgL (zs : List Int) (v : Int) : ds8 zs v = dgL zs v := by
  apply List.ext_getElem?
  intro j
  by_cases h : j < 8
  · have e : (dgL zs v)[j]? = some (dg (dgL zs v) j) := by unfold dg; rw [List.getElem?_eq_getElem (by rw [dgL_len]; exact h)]; rfl
    rw [e]
    unfold ds8
    match j, h with
    | 0, _ => rfl
    | 1, _ => rfl
    | 2, _ => rfl
    | 3, _ => rfl
    | 4, _ => rfl
    | 5, _ => rfl
    | 6, _ => rfl
    | 7, _ => rfl
  · rw [List.getElem?_eq_none (show (ds8 zs v).length ≤ j by show 8 ≤ j; omega), List.getElem?_eq_none (by rw [dgL_len]; omega)]
theorem ds8_Dg (zs : List Int) (v : Int) (ho : okL zs = true) : Dg zs (txD zs (ds8 zs v)) (ds8 zs v) := by
  obtain ⟨_, _, hi, _, _⟩ := okL_out ho
  rw [ds8_dgL]
  exact Dg.of (dgL_len _ _) (fun j hj => (dgL_bd zs v hi j hj).1) (okV_dgL zs v ho)
theorem dg_val {zs : List Int} {y : List UInt8} {ds : List Int} (ho : okL zs = true) (h : Dg zs y ds) : ds8 zs (valL zs ds zs.length) = ds := by
  rw [ds8_dgL]
  exact dgL_val zs ds (h.valid ho) (DgN h) h.1
theorem dg_valbd {zs : List Int} {y : List UInt8} {ds : List Int} (ho : okL zs = true) (h : Dg zs y ds) : 0 ≤ valL zs ds zs.length ∧ valL zs ds zs.length < szL zs := by
  obtain ⟨_, h8, hi, _, _⟩ := okL_out ho
  have := valL_bd zs ds zs.length (Nat.le_refl _) hi (fun j hj => (h.2.2.1 j hj).1)
  rw [List.take_length] at this
  exact this
theorem dg_text {zs : List Int} {l : List UInt8} {ds : List Int} (ho : okL zs = true) (h : Dg zs l ds) : ∀ x ∈ l, x = 58 ∨ digB x = true := fun x hx => by
  rw [← join_spl 58 l] at hx
  have key : ∀ ps : List (List UInt8), x ∈ Lib.join ps [58] → x = 58 ∨ ∃ p ∈ ps, x ∈ p := by
    intro ps
    induction ps with
    | nil => intro h; simp [Lib.join] at h
    | cons p r ih =>
      intro h
      cases r with
      | nil => rw [Lib.join_one] at h; exact .inr ⟨p, by simp, h⟩
      | cons q s =>
        rw [join_two] at h
        rcases List.mem_append.1 h with h | h
        · exact .inr ⟨p, by simp, h⟩
        · rcases List.mem_cons.1 h with h | h
          · exact .inl h
          · rcases ih h with h | ⟨z, hz, h⟩
            · exact .inl h
            · exact .inr ⟨z, List.mem_cons_of_mem _ hz, h⟩
  rcases key _ hx with e | ⟨p, hp, hxp⟩
  · exact .inl e
  · obtain ⟨k, hk, rfl⟩ := List.getElem_of_mem hp
    obtain ⟨_, h8, hi, _, _⟩ := okL_out ho
    have hl := h.2.1
    have h2 := h.2.2.1 (zs.length - 1 - k) (by omega)
    rw [show zs.length - 1 - (zs.length - 1 - k) = k by omega, List.getElem?_eq_getElem hk] at h2
    have e := Option.some.inj h2.2
    have hz := hi (zs.length - 1 - k) (by omega)
    have := (dgT_facts (ug zs (zs.length - 1 - k)) (ug ds (zs.length - 1 - k)) hz h2.1).2.2.1
    rw [← e] at this
    exact .inr (List.all_eq_true.1 this x hxp)
theorem dg_noc {zs : List Int} {l : List UInt8} {ds : List Int} {c : UInt8} (ho : okL zs = true) (h : Dg zs l ds) (h1 : c ≠ 58) (h2 : digB c = false) : c ∉ l := fun hm => by
  rcases dg_text ho h c hm with e | e
  · exact h1 e
  · rw [h2] at e; cases e
theorem lgTx_spl (zs : List Int) (n : Nat) (v : Int) (ho : okL zs = true) (hn : n < 10000000000000) : spl 32 (lgTx zs ((n : Int), v)) = [Lib.decDigits n, txD zs (ds8 zs v)] := by
  unfold lgTx
  rw [itoa_nat, List.append_assoc, List.singleton_append, spl_app 32 _ _ (itoa_noC (by decide) n hn), spl_one 32 _ (dg_noc ho (ds8_Dg zs v ho) (by decide) (by decide))]
theorem lgA_lnT (zs : List Int) (js : List (Int × Int)) : lgA zs js js.length = lnT (js.map (lgTx zs)) := by
  unfold lgA lnT
  congr 1
  apply List.ext_getElem?
  intro k
  by_cases hk : k < js.length
  · rw [List.getElem?_map, List.getElem?_range hk, List.map_map, List.getElem?_map, List.getElem?_eq_getElem hk]
    simp only [Option.map_some, Function.comp]
    rw [show js[k] = (rd js k, rv js k) from by unfold rd rv; rw [List.getElem?_eq_getElem hk]; rfl]
    rfl
  · rw [List.getElem?_eq_none (by simp; omega), List.getElem?_eq_none (by simp; omega)]
theorem lined_lg (zs : List Int) (ho : okL zs = true) : Lined (lgW zs) (lgF zs) (lgTx zs) (lgOkA zs) (okG zs) (lgR zs) 41 where
  k1 := by omega
  out := fun p a h => by
    unfold lgW at h
    split at h
    · rename_i x y hs
      split at h
      · rename_i hc
        obtain ⟨hx, ds, hd⟩ := hc
        injection h with h
        subst h
        unfold lgTx
        simp only
        rw [dgE_of ho hd, dg_val ho hd, hd.text ho, itoa_nat, of_can hx, ← join_spl 32 p, hs, join_two, Lib.join_one]
        simp
      · cases h
    · cases h
  back := fun a h => by
    obtain ⟨d, v⟩ := a
    obtain ⟨⟨h1, h2⟩, h3, h4⟩ := h
    simp only at h1 h2 h3 h4
    obtain ⟨n, rfl⟩ : ∃ n : Nat, d = n := ⟨d.toNat, by omega⟩
    unfold lgW
    rw [lgTx_spl zs n v ho (by omega)]
    simp only
    have hd := ds8_Dg zs v ho
    have cn := can_of n (by omega)
    rw [if_pos ⟨cn.1, _, hd⟩, dgE_of ho hd, ds8_dgL, valL_of zs v ho ⟨h3, h4⟩, cn.2]
  read := fun a h p hp => by
    obtain ⟨d, v⟩ := a
    obtain ⟨⟨h1, h2⟩, h3, h4⟩ := h
    simp only at h1 h2 h3 h4
    obtain ⟨n, rfl⟩ : ∃ n : Nat, d = n := ⟨d.toNat, by omega⟩
    have e : Lib.cut p.data.toList [32] = (Lib.decDigits n, txD zs (ds8 zs v), true) := by
      rw [hp]
      unfold lgTx
      rw [itoa_nat, List.append_assoc, List.singleton_append]
      exact cut_oneK 32 _ _ (itoa_noC (by decide) n (by omega))
    have hd := ds8_Dg zs v ho
    unfold lgF
    rw [e]
    simp only
    rw [if_pos ⟨rfl, _, hd⟩, pi64_D (canD_of n (by omega)).1, dgE_of ho hd, ds8_dgL, valL_of zs v ho ⟨h3, h4⟩, (canD_of n (by omega)).2]
  line := fun a h => by
    obtain ⟨d, v⟩ := a
    obtain ⟨⟨h1, h2⟩, h3, h4⟩ := h
    simp only at h1 h2 h3 h4
    obtain ⟨n, rfl⟩ : ∃ n : Nat, d = n := ⟨d.toNat, by omega⟩
    unfold lgTx
    rw [itoa_nat]
    simp only [List.mem_append, List.mem_singleton, not_or]
    exact ⟨⟨itoa_noC (by decide) n (by omega), by decide⟩, dg_noc ho (ds8_Dg zs v ho) (by decide) (by decide)⟩
  all := fun xs h => by
    obtain ⟨h1, h2, h3, _⟩ := okG_out h
    refine ⟨fun a ha => ?_, by omega⟩
    obtain ⟨k, hk, rfl⟩ := List.getElem_of_mem ha
    have := okRd_out (h3 k hk)
    rw [show xs[k] = (rd xs k, rv xs k) from by unfold rd rv; rw [List.getElem?_eq_getElem hk]; rfl]
    exact ⟨⟨by omega, by show rd xs k ≤ _; omega⟩, by show 0 ≤ rv xs k; omega, by show rv xs k < _; omega⟩
  nil := by simp [okG, ho]
  yes := fun xs h => by rw [lgR_yes h, lgA_lnT]
  no := fun xs h => lgR_no h
end Go.Proofs.YtcanfcpofihoeaaGreatDoor

namespace Go.Proofs.YtcanfcpofihoeaaGreatDoor
open Go.RowKit
set_option linter.unusedSimpArgs false
/-- the numbers of a train, one behind the other -/
def numr (js : List (Int × Int)) (i : Nat) : Int := if i % 2 = 0 then rd js (i / 2) else rv js (i / 2)
def numrs (js : List (Int × Int)) (k : Nat) : List Int := (List.range k).map (numr js)
theorem numrs_zero (js : List (Int × Int)) : numrs js 0 = [] := rfl
theorem numrs_len (js : List (Int × Int)) (k : Nat) : (numrs js k).length = k := by simp [numrs]
theorem numrs_succ (js : List (Int × Int)) (k : Nat) : numrs js (k + 1) = numrs js k ++ [numr js k] := by simp [numrs, List.range_succ]
theorem numrs_get (js : List (Int × Int)) (k j : Nat) (h : j < k) : (numrs js k)[j]? = some (numr js j) := by simp [numrs, h]
theorem numr_even (js : List (Int × Int)) (k : Nat) : numr js (k * 2) = rd js k := by
  have h1 : (k * 2) % 2 = 0 := by omega
  have h2 : (k * 2) / 2 = k := by omega
  rw [numr, if_pos h1, h2]
theorem numr_odd (js : List (Int × Int)) (k : Nat) : numr js (k * 2 + 1) = rv js k := by
  have h1 : ¬ (k * 2 + 1) % 2 = 0 := by omega
  have h2 : (k * 2 + 1) / 2 = k := by omega
  rw [numr, if_neg h1, h2]

def tvals (js : List (Int × Int)) : List Value := (numrs js (js.length * 2)).map (Value.int .i64)
theorem tvals_len (js : List (Int × Int)) : (tvals js).length = js.length * 2 := by simp [tvals, numrs_len]
theorem tvals_get (js : List (Int × Int)) (rest : List Value) (j : Nat) (hj : j < js.length) : (tvals js ++ rest)[j * 2]? = some (.int .i64 (rd js j)) ∧ (tvals js ++ rest)[j * 2 + 1]? = some (.int .i64 (rv js j)) := by
  rw [List.getElem?_append_left (by rw [tvals_len]; omega), List.getElem?_append_left (by rw [tvals_len]; omega)]
  simp only [tvals, List.getElem?_map]
  rw [numrs_get _ _ _ (by omega), numrs_get _ _ _ (by omega), numr_even, numr_odd]
  exact ⟨rfl, rfl⟩
/-- the marks that are written -/
def marksG (n : Nat) : List (Int × Int) := (List.range n).map fun (j : Nat) => ((1 + 2 * (j : Int)), (1 + 2 * (j : Int) + 1))
theorem marksG_len (n : Nat) : (marksG n).length = n := by simp [marksG]
def halfG (js : List (Int × Int)) (k : Nat) : List (Int × Int) := marksG k ++ js.drop k
theorem halfG_len (js : List (Int × Int)) (k : Nat) (h : k ≤ js.length) : (halfG js k).length = js.length := by simp [halfG, marksG]; omega
theorem halfG_zero (js : List (Int × Int)) : halfG js 0 = js := by simp [halfG, marksG]
theorem halfG_all (js : List (Int × Int)) : halfG js js.length = marksG js.length := by simp [halfG]
theorem halfG_get (js : List (Int × Int)) (k j : Nat) : (halfG js k)[j]? = if j < k then some ((1 + 2 * (j : Int)), (1 + 2 * (j : Int) + 1)) else js[j]? := by
  by_cases h : j < k
  · rw [if_pos h, halfG, List.getElem?_append_left (by rw [marksG_len]; exact h)]
    simp [marksG, h]
  · rw [if_neg h, halfG, List.getElem?_append_right (by rw [marksG_len]; omega), marksG_len, List.getElem?_drop, show k + (j - k) = j from by omega]
theorem halfG_set (js : List (Int × Int)) (rest : List Value) (k : Nat) (h : k < js.length) :
    ((tvals (halfG js k) ++ rest).set (k * 2) (.int .i64 ((1 + 2 * (k : Int))))).set (k * 2 + 1) (.int .i64 ((1 + 2 * (k : Int) + 1))) = tvals (halfG js (k + 1)) ++ rest := by
  have l1 := halfG_len js k (by omega)
  have l2 := halfG_len js (k + 1) (by omega)
  rw [List.set_append_left _ _ (by rw [tvals_len, l1]; omega), List.set_append_left _ _ (by rw [List.length_set, tvals_len, l1]; omega)]
  congr 1
  apply List.ext_getElem?
  intro i
  simp only [List.getElem?_set, List.length_set, tvals_len, l1]
  have G : ∀ (ks : List (Int × Int)) (i : Nat), (tvals ks)[i]? = if i < ks.length * 2 then some (.int .i64 (numr ks i)) else none := fun ks i => by
    by_cases hi : i < ks.length * 2
    · rw [if_pos hi]; simp only [tvals, List.getElem?_map]; rw [numrs_get _ _ _ hi]; rfl
    · rw [if_neg hi]; exact List.getElem?_eq_none (by rw [tvals_len]; omega)
  rw [G, G, l1, l2]
  by_cases hi : i < js.length * 2
  · rw [if_pos hi, if_pos hi]
    by_cases e1 : k * 2 + 1 = i
    · subst e1
      rw [if_pos rfl, if_pos (by omega), numr_odd, rv, halfG_get, if_pos (by omega)]
      rfl
    · rw [if_neg e1]
      by_cases e2 : k * 2 = i
      · subst e2
        rw [if_pos rfl, if_pos (by omega), numr_even, rd, halfG_get, if_pos (by omega)]
        rfl
      · rw [if_neg e2]
        have hx : numr (halfG js k) i = numr (halfG js (k + 1)) i := by
          have g : (halfG js k)[i / 2]? = (halfG js (k + 1))[i / 2]? := by
            rw [halfG_get, halfG_get]
            by_cases h3 : i / 2 < k
            · rw [if_pos h3, if_pos (by omega)]
            · rw [if_neg h3, if_neg (by omega)]
          simp only [numr, rd, rv, g]
        rw [hx]
  · rw [if_neg (by omega), if_neg (by omega), if_neg hi]
    rw [if_neg hi]
theorem marksG_get (n k : Nat) (h : k < n) : rd (marksG n) k = (1 + 2 * (k : Int)) ∧ rv (marksG n) k = (1 + 2 * (k : Int) + 1) := by
  simp [rd, rv, marksG, h]
end Go.Proofs.YtcanfcpofihoeaaGreatDoor

namespace Go.Proofs.YtcanfcpofihoeaaGreatDoor
open Go.RowKit
set_option linter.unusedVariables false
/-- v is the train js, in a block of its own from base on -/
def OwnG (w : World) (base : Nat) (v : Value) (js : List (Int × Int)) : Prop :=
  ∃ a cap, v = .slice a js.length cap ∧ js.length ≤ 1048576 ∧ (js = [] ∨ ∃ g rest, a = some ⟨g, 0, none⟩ ∧ base ≤ g ∧ Row w g 44 (tvals js ++ rest))
theorem OwnG.of_owns {w : World} {base n : Nat} {v : Value} {js : List (Int × Int)} (h : w.ownsRow base 44 2 v n (tvals js)) (hl : js.length ≤ 1048576) : OwnG w base v js := by
  have hn : n = js.length := by have := h.1; rw [tvals_len] at this; omega
  rcases h.2 with ⟨rfl, h0⟩ | ⟨g, cap, cur, rfl, h2, h3, h4, h5, h6, h7⟩
  · have : js = [] := List.length_eq_zero_iff.1 (by omega)
    subst this
    exact ⟨none, 0, rfl, by simp, .inl rfl⟩
  · refine ⟨some ⟨g, 0, none⟩, cap, by rw [hn], hl, .inr ⟨g, cur.toList.drop (n * 2), rfl, h2, ?_⟩⟩
    unfold Row
    rw [h3, ← h7, List.take_append_drop]
theorem OwnG.nil (w : World) (base : Nat) (a : Option Addr) (cap : Nat) : OwnG w base (.slice a 0 cap) [] := ⟨a, cap, rfl, by simp, .inl rfl⟩
theorem OwnG.keep {w w' : World} {base : Nat} {v : Value} {js : List (Int × Int)} (h : OwnG w base v js) (hb : Below w.heap.size w w') : OwnG w' base v js := by
  obtain ⟨a, cap, h1, h2, h3⟩ := h
  refine ⟨a, cap, h1, h2, ?_⟩
  rcases h3 with h0 | ⟨g, rest, e, hg, hr⟩
  · exact .inl h0
  · exact .inr ⟨g, rest, e, hg, hr.below hb hr.lt⟩
/-- what is written from k on leaves it, if it had been made before -/
theorem OwnG.low {w w1 w' : World} {base k : Nat} {v : Value} {js : List (Int × Int)} (h : OwnG w base v js) (hw : Below w.heap.size w w1) (hk : w.heap.size ≤ k) (hb : Below k w1 w') : OwnG w' base v js := by
  obtain ⟨a, cap, h1, h2, h3⟩ := h
  refine ⟨a, cap, h1, h2, ?_⟩
  rcases h3 with h0 | ⟨g, rest, e, hg, hr⟩
  · exact .inl h0
  · exact .inr ⟨g, rest, e, hg, (hr.below hw hr.lt).below hb (Nat.lt_of_lt_of_le hr.lt hk)⟩
theorem OwnG.pst {w : World} {g : Nat} {js : List (Int × Int)} {rest : List Value} (h : Row w g 44 (tvals js ++ rest)) (hl : js.length ≤ 1048576) : Rst w g js :=
  ⟨h.lt, fun j hj => ⟨(h.cell _).trans (tvals_get js rest j hj).1, (h.cell _).trans (tvals_get js rest j hj).2⟩, hl⟩
set_option maxHeartbeats 1000000 in
theorem eqG_nil (a1 a2 : Option Addr) (c1 c2 : Nat) (w : World) : Calls Tryz.prog 7 #[.slice a1 0 c1, .slice a2 0 c2] w (GivesB w (.bool true)) := by
  go_enter Tryz.func7, Tryz.ntmps7
  go_wp2_with fail
  refine wp_loop_rounds 1 ?_
  rw [rounds_succ]
  go_wp2_with fail
  go_ret
  exact ⟨rfl, Below.refl _ _⟩
theorem eqG_own (b1 b2 : Nat) (v1 v2 : Value) (js : List (Int × Int)) (w : World) (h1 : OwnG w b1 v1 js) (h2 : OwnG w b2 v2 js) :
    Calls Tryz.prog 7 #[v1, v2] w (GivesB w (.bool true)) := by
  obtain ⟨a1, c1, rfl, hl, k1⟩ := h1
  obtain ⟨a2, c2, rfl, _, k2⟩ := h2
  rcases k1 with hz | ⟨g1, r1, rfl, _, R1⟩
  · subst hz
    exact eqG_nil _ _ _ _ w
  · rcases k2 with hz | ⟨g2, r2, rfl, _, R2⟩
    · subst hz
      exact eqG_nil _ _ _ _ w
    · exact eqReads_same g1 g2 js.length c1 c2 js w (OwnG.pst R1 hl) (OwnG.pst R2 hl) rfl
set_option maxHeartbeats 2000000 in
theorem markG_own (base : Nat) (v : Value) (js : List (Int × Int)) (w : World) (h : OwnG w base v js) :
    Calls Tryz.prog 10 #[v, .int .i64 1] w fun e w' => e = .returned (.int .i64 (1 + 2 * (js.length : Int))) ∧ OwnG w' base v (marksG js.length) ∧ Below base w w' ∧ w'.heap.size = w.heap.size := by
  obtain ⟨a, c, rfl, hl, k1⟩ := h
  rcases k1 with hz | ⟨g, rest, rfl, hg, R⟩
  · subst hz
    simp only [List.length_nil]
    go_enter Tryz.func10, Tryz.ntmps10
    go_wp2_with fail
    refine wp_loop_rounds 1 ?_
    rw [rounds_succ]
    go_wp2_with fail
    go_ret
    exact ⟨rfl, OwnG.nil _ _ _ _, Below.refl _ _, rfl⟩
  · obtain ⟨n, hn⟩ : ∃ n, js.length = n := ⟨_, rfl⟩
    rw [hn] at hl ⊢
    have HN := hid hn
    have R0 : Row w g 44 (tvals (halfG js 0) ++ rest) := by rw [halfG_zero]; exact R
    clear hn R
    go_enter Tryz.func10, Tryz.ntmps10
    go_wp2_with fail
    go_loopw [1, 5] (fun m i wr => ∃ k : Nat, k ≤ n ∧ i = .int .i64 k ∧ m = .int .i64 (1 + 2 * (k : Int)) ∧ Row wr g 44 (tvals (halfG js k) ++ rest) ∧ Below base w wr ∧ wr.heap.size = w.heap.size) (fun _ i _ => n - (intOf i).toNat)
    case atStart => exact ⟨0, Nat.zero_le _, rfl, rfl, R0, Below.refl _ _, rfl⟩
    case round =>
      clear R0
      obtain ⟨k, hk, rfl, rfl, hrow, hB, hsz⟩ := hrel
      have HSZ := hid hsz
      clear hsz
      by_cases hlt : k < n
      · have hlt' : (k : Int) < (n : Int) := by omega
        have hk0 : (0 : Int) ≤ (k : Int) := by omega
        have HS := hid (halfG_set js rest k (by rw [HN.out]; exact hlt))
        have f0 := hrow.frozen (k * 2)
        have f1 := hrow.frozen (k * 2 + 1)
        have hlen : (tvals (halfG js k) ++ rest).length = n * 2 + rest.length := by rw [List.length_append, tvals_len, halfG_len _ _ (by rw [HN.out]; exact hk), HN.out]
        obtain ⟨o0, h0⟩ : ∃ u, wr.cell? ⟨g, k * 2, none⟩ = some u := ⟨_, (hrow.cell (k * 2)).trans (List.getElem?_eq_getElem (by rw [hlen]; omega))⟩
        obtain ⟨o1, h1⟩ : ∃ u, wr.cell? ⟨g, k * 2 + 1, none⟩ = some u := ⟨_, (hrow.cell (k * 2 + 1)).trans (List.getElem?_eq_getElem (by rw [hlen]; omega))⟩
        have R2 := (hrow.set (k * 2) (.int .i64 ((1 + 2 * (k : Int))))).set (k * 2 + 1) (.int .i64 ((1 + 2 * (k : Int) + 1)))
        rw [HS.out] at R2
        have B2 := hid ((hB.setCell (p := ⟨g, k * 2, none⟩) hg (.int .i64 ((1 + 2 * (k : Int))))).setCell (p := ⟨g, k * 2 + 1, none⟩) hg (.int .i64 ((1 + 2 * (k : Int) + 1))))
        have t1 : IntKind.i64.wrap (1 + 2 * (k : Int)) = 1 + 2 * (k : Int) := IntWalk.i64_in _ (by omega)
        have t2 : IntKind.i64.wrap (1 + 2 * (k : Int) + 1) = 1 + 2 * (k : Int) + 1 := IntWalk.i64_in _ (by omega)
        have R3 := hid R2
        clear R2 hrow hB hlen
        go_wp2_with fail
        go_roundw
        case rel => exact ⟨k + 1, by omega, by go_num, by first | go_num | (congr 1; done) | (congr 1; omega), R3.out, B2.out, by simpa using HSZ.out⟩
        case measure => simp [intOf]; omega
      · obtain rfl : k = n := by omega
        have R3 := hid hrow
        clear hrow
        go_wp2_with fail
        go_ret
        refine ⟨rfl, ⟨some ⟨g, 0, none⟩, c, by rw [marksG_len], by rw [marksG_len]; exact hl, .inr ⟨g, rest, rfl, hg, ?_⟩⟩, hB, HSZ.out⟩
        have := R3.out
        rw [← HN.out, halfG_all] at this
        rw [← HN.out]
        exact this
set_option maxHeartbeats 2000000 in
theorem heldG_own (base : Nat) (v : Value) (n : Nat) (w : World) (h : OwnG w base v (marksG n)) :
    Calls Tryz.prog 11 #[v, .int .i64 1] w fun e w' => e = .returned (.int .i64 (1 + 2 * (n : Int))) ∧ ∃ d, w' = w.drewN d := by
  obtain ⟨a, c, rfl, hl, k1⟩ := h
  rw [marksG_len] at hl ⊢
  rcases k1 with hz | ⟨g, rest, rfl, hg, R⟩
  · have h0 : n = 0 := by have := congrArg List.length hz; simpa [marksG_len] using this
    subst h0
    go_enter Tryz.func11, Tryz.ntmps11
    go_wp2_with fail
    refine wp_loop_rounds 1 ?_
    rw [rounds_succ]
    go_wp2_with fail
    go_ret
    exact ⟨rfl, 0, rfl⟩
  · have C := hid (fun j (hj : j < n) => (OwnG.pst R (by rw [marksG_len]; exact hl)).2.1 j (by rw [marksG_len]; exact hj))
    clear R
    go_enter Tryz.func11, Tryz.ntmps11
    go_wp2_with fail
    go_loopw [1, 5] (fun m i wr => ∃ k : Nat, k ≤ n ∧ i = .int .i64 k ∧ m = .int .i64 (1 + 2 * (k : Int)) ∧ ∃ d, wr = w.drewN d) (fun _ i _ => n - (intOf i).toNat)
    case atStart => exact ⟨0, Nat.zero_le _, rfl, rfl, 0, rfl⟩
    case round =>
      obtain ⟨k, hk, rfl, rfl, d, rfl⟩ := hrel
      by_cases hlt : k < n
      · have hlt' : (k : Int) < (n : Int) := by omega
        have hk0 : (0 : Int) ≤ (k : Int) := by omega
        have cc := C.out k hlt
        rw [(marksG_get n k hlt).1, (marksG_get n k hlt).2] at cc
        have c0 := cc.1
        have c1 := cc.2
        have t1 : IntKind.i64.wrap (1 + 2 * (k : Int)) = 1 + 2 * (k : Int) := IntWalk.i64_in _ (by omega)
        have t2 : IntKind.i64.wrap (1 + 2 * (k : Int) + 1) = 1 + 2 * (k : Int) + 1 := IntWalk.i64_in _ (by omega)
        have b0 : ((1 + 2 * (k : Int)) != (1 + 2 * (k : Int))) = false := by simp
        have b1 : ((1 + 2 * (k : Int) + 1) != (1 + 2 * (k : Int) + 1)) = false := by simp
        clear cc
        go_wp2_with fail
        all_goals (try (go_quiet (fail); go_wp2_with fail))
        go_roundw
        case rel => exact ⟨k + 1, by omega, by go_num, by first | go_num | (congr 1; done) | (congr 1; omega), _, rfl⟩
        case measure => simp [intOf]; omega
      · obtain rfl : k = n := by omega
        go_wp2_with fail
        go_ret
        exact ⟨rfl, d, rfl⟩
end Go.Proofs.YtcanfcpofihoeaaGreatDoor

namespace Go.Proofs.YtcanfcpofihoeaaGreatDoor
open Go.RowKit
set_option linter.unusedVariables false
set_option linter.unusedSimpArgs false
set_option maxRecDepth 100000 in
set_option maxHeartbeats 1000000 in
theorem validStack_nil (w : World) : Calls Tryz.prog 18 #[.slice none 0 0] w fun e w' => e = .returned (.bool false) ∧ w = w' := by
  go_enter Tryz.func18, Tryz.ntmps18
  go_wp2_with fail
  go_ret
  exact ⟨rfl, rfl⟩
theorem pwI_bd (p : ByteArray) : 0 ≤ pwI p ∧ pwI p ≤ 255 := by
  unfold pwI pw
  cases h : Lib.parseUintB 8 p.data.toList with
  | ok u => have := Lib.parseUintB_le h; simp; omega
  | «syntax» => simp
  | range => simp
theorem rsR_no {l : List UInt8} (h : stkR l = none) : rsR l = ([], 5) := by simp [rsR, h]
theorem rsR_yes {l : List UInt8} {zs : List Int} (h : stkR l = some zs) : rsR l = (zs, 0) := by simp [rsR, h]
/-- the variables of the library, the table too -/
def LW (w : World) (tS : TypeId) (pS : Value) (tR : TypeId) (pR : Value) (m : Int) : Prop := LV w tS pS tR pR m ∧ Lib.TabIs Tryz.prog w "internal/strconv.uint64pow10" .u64 Lib.pow10Tab ∧ 3 < w.heap.size
theorem LW.below {w w' : World} {tS tR : TypeId} {pS pR : Value} {m : Int} {n : Nat} (h : LW w tS pS tR pR m) (hb : Below n w w') (hn : w.heap.size ≤ n) : LW w' tS pS tR pR m :=
  ⟨h.1.below hb hn, tab_below h.2.1 hb (Nat.lt_of_lt_of_le h.2.2 hn), Nat.lt_of_lt_of_le h.2.2 hb.size⟩
theorem owns_lowB {w : World} {b' base size n : Nat} {e : TypeId} {v : Value} {xs : List Value} (h : w.ownsRow base e size v n xs) (hb : b' ≤ base) : w.ownsRow b' e size v n xs := by
  obtain ⟨h1, h2 | ⟨g, cap, cur, h2, h3, r⟩⟩ := h
  · exact ⟨h1, .inl h2⟩
  · exact ⟨h1, .inr ⟨g, cap, cur, h2, by omega, r⟩⟩
end Go.Proofs.YtcanfcpofihoeaaGreatDoor
