/- SameMotion: the program's and the model's, and the law's walk. -/
import Derived.Test.YthpoeaoikfekgaaSamJ
namespace Go.Proofs.Ythpoeaoikfekgaa
open Go.RowKit
theorem box2b (w : World) (T : TypeId) (x y : Value) : Below w.heap.size w (w.alloc (.cells #[x, y] T)) := (Below.refl _ w).alloc (Nat.le_refl _) _
theorem two_b (w : World) (T : TypeId) (a b x y : Value) : ∀ W, W = ((w.alloc (.cells #[a, b] T)).alloc (.cells #[x, y] T)) →
    Row W w.heap.size T [a, b] ∧ Row W (w.heap.size + 1) T [x, y] ∧ Below w.heap.size w W ∧ W.heap.size = w.heap.size + 1 + 1 := by
  rintro W rfl
  have h := Row.new (w.alloc (.cells #[a, b] T)) T [x, y]
  simp only [World.size_alloc] at h
  exact ⟨(Row.new w T [a, b]).alloc _, h, (box2b w T a b).alloc (by simp) _, by simp⟩
set_option maxHeartbeats 1000000 in
theorem l01SameQ_any (b1 b2 n1 n2 c1 c2 : Nat) (xs ys : List Int) (w : World) (h1 : Stk w b1 xs) (h2 : Stk w b2 ys) (hn1 : n1 = xs.length) (hn2 : n2 = ys.length) :
    Calls Try.prog 52 #[.slice (some ⟨b1, 0, none⟩) n1 c1, .slice (some ⟨b2, 0, none⟩) n2 c2] w fun e w' => e = .returned (.bool (sameL xs ys)) ∧ ∃ d, w' = w.drewN d := by
  have hC1 := hid h1.2.1
  have hC2 := hid h2.2.1
  have hl := h1.2.2.2
  have hl2 := h2.2.2.2
  rw [← hn1] at hl
  rw [← hn2] at hl2
  have hN1 := hid hn1
  have hN2 := hid hn2
  clear h1 h2 hn1 hn2
  by_cases hne : n1 = n2
  · have HE : Hid (n1 = n2) := hid hne
    subst hne
    have hne : ((n1 : Int) != (n1 : Int)) = false := by simp
    go_enter Try.func52, Try.ntmps52
    go_wp2
    go_loopw [5] (fun i wr => ∃ k : Nat, k ≤ n1 ∧ i = .int .i64 k ∧ sameTo xs ys k ∧ ∃ d, wr = w.drewN d) (fun i _ => n1 - (intOf i).toNat)
    case atStart => exact ⟨0, Nat.zero_le _, rfl, fun j h => by omega, 0, rfl⟩
    case round =>
      obtain ⟨k, hk, rfl, hS, d, rfl⟩ := hrel
      by_cases hlt : k < n1
      · have hx1 := hC1.out k (by rw [← hN1.out]; exact hlt)
        have hx2 := hC2.out k (by rw [← hN2.out]; exact hlt)
        have hlt' : (k : Int) < (n1 : Int) := by omega
        have HF := hid (@sameL_at xs ys k)
        have HG := hid (@sameTo_succ xs ys k hS)
        clear hS
        obtain ⟨x, hx⟩ : ∃ x, x = xs[k]?.getD 0 := ⟨_, rfl⟩
        obtain ⟨y, hy⟩ : ∃ y, y = ys[k]?.getD 0 := ⟨_, rfl⟩
        rw [← hx] at hx1 HF HG
        rw [← hy] at hx2 HF HG
        clear hx hy
        by_cases hxy : x = y
        · have HG' := hid (HG.out hxy)
          subst hxy
          have hb : (x != x) = false := by simp
          go_wp2
          go_quiet (fail)
          go_wp2
          all_goals go_roundw
          case rel => exact ⟨k + 1, by omega, by go_num, HG'.out, _, rfl⟩
          case measure => simp [intOf]; omega
        · have hb : (x != y) = true := by rw [bne_iff_ne]; exact hxy
          have HF' := hid (HF.out hxy)
          clear hxy
          go_wp2
          go_quiet (fail)
          go_wp2
          go_ret
          exact ⟨by rw [HF'.out]; rfl, _, World.drewN_drewN _ _ _⟩
      · obtain rfl : k = n1 := by omega
        have HF := hid (sameL_all (by rw [← hN1.out, ← hN2.out]) (fun j hj => hS j (by rw [hN1.out]; exact hj)))
        clear hS
        go_wp2
        go_ret
        exact ⟨by rw [HF.out]; rfl, d, rfl⟩
  · have hb : ((n1 : Int) != (n2 : Int)) = true := by rw [bne_iff_ne]; omega
    have HF := hid (@sameL_len xs ys (by rw [← hN1.out, ← hN2.out]; exact hne))
    clear hne
    go_enter Try.func52, Try.ntmps52
    go_wp2
    go_ret
    exact ⟨by rw [HF.out]; rfl, 0, rfl⟩

theorem specSameQ_any (b1 b2 n1 n2 c1 c2 : Nat) (xs ys : List Int) (w : World) (h1 : Stk w b1 xs) (h2 : Stk w b2 ys) (hn1 : n1 = xs.length) (hn2 : n2 = ys.length) :
    Calls Try.prog 45 #[.slice (some ⟨b1, 0, none⟩) n1 c1, .slice (some ⟨b2, 0, none⟩) n2 c2] w fun e w' => e = .returned (.bool (sameL xs ys)) ∧ ∃ d, w' = w.drewN d := by
  have H1 := hid h1; have H2 := hid h2; have N1 := hid hn1; have N2 := hid hn2
  clear h1 h2 hn1 hn2
  go_enter Try.func45, Try.ntmps45
  go_wp2_with (go_at_call 52; refine (l01SameQ_any _ _ _ _ _ _ xs ys _ H1.out H2.out N1.out N2.out).mono ?_; rintro e w' ⟨rfl, d, rfl⟩)
  go_ret
  exact ⟨rfl, d, rfl⟩
theorem quiet_dr {P : Program} {f : FuncId} {args : Array Value} {w : World} {n : Nat} {v : Value}
    (h : Calls P f args (w.drewN n) fun e w' => e = .returned v ∧ ∃ d, w' = (w.drewN n).drewN d) : Calls P f args (w.drewN n) fun e w'' => e = .returned v ∧ ∃ m, w'' = w.drewN m := by
  refine h.mono ?_
  rintro e w' ⟨he, d, hm⟩
  exact ⟨he, n + d, by rw [hm, World.drewN_drewN]⟩
def samM (zs zs' : List Int) (js js' : List (Int × Int)) : Bool := sameL zs zs' && samJ js js'
theorem samM_no {zs zs' : List Int} {js js' : List (Int × Int)} (h : sameL zs zs' = false) : samM zs zs' js js' = false := by simp [samM, h]
theorem samM_yes {zs zs' : List Int} {js js' : List (Int × Int)} (h : sameL zs zs' = true) : samM zs zs' js js' = samJ js js' := by simp [samM, h]
/-- two motions: their stacks and joints -/
structure TwoMo (w : World) (b n g m b' n' g' m' : Nat) (zs zs' : List Int) (js js' : List (Int × Int)) : Prop where
  s : Stk w b zs
  j : Jst w g js
  s' : Stk w b' zs'
  j' : Jst w g' js'
  hn : n = zs.length
  hm : m = js.length
  hn' : n' = zs'.length
  hm' : m' = js'.length
theorem TwoMo.keep {w w' : World} {b n g m b' n' g' m' : Nat} {zs zs' : List Int} {js js' : List (Int × Int)} (h : TwoMo w b n g m b' n' g' m' zs zs' js js') (hb : Below w.heap.size w w') : TwoMo w' b n g m b' n' g' m' zs zs' js js' :=
  ⟨h.s.below hb h.s.1, h.j.below hb h.j.1, h.s'.below hb h.s'.1, h.j'.below hb h.j'.1, h.hn, h.hm, h.hn', h.hm'⟩
set_option maxHeartbeats 2000000 in
theorem implSameMotion_any (b n c g m d b' n' c' g' m' d' : Nat) (zs zs' : List Int) (js js' : List (Int × Int)) (w : World) (h : TwoMo w b n g m b' n' g' m' zs zs' js js') :
    Calls Try.prog 10 #[.agg #[.slice (some ⟨b, 0, none⟩) n c, .slice (some ⟨g, 0, none⟩) m d], .agg #[.slice (some ⟨b', 0, none⟩) n' c', .slice (some ⟨g', 0, none⟩) m' d']] w fun e w' => e = .returned (.bool (samM zs zs' js js')) ∧ Below w.heap.size w w' := by
  obtain ⟨W, hW⟩ : ∃ W, W = ((w.alloc (.cells #[.slice (some ⟨b, 0, none⟩) n c, .slice (some ⟨g, 0, none⟩) m d] 31)).alloc (.cells #[.slice (some ⟨b', 0, none⟩) n' c', .slice (some ⟨g', 0, none⟩) m' d'] 31)) := ⟨_, rfl⟩
  obtain ⟨q0, q1, bW, sW⟩ := two_b w 31 (.slice (some ⟨b, 0, none⟩) n c) (.slice (some ⟨g, 0, none⟩) m d) (.slice (some ⟨b', 0, none⟩) n' c') (.slice (some ⟨g', 0, none⟩) m' d') W hW
  have Q0 := hid q0
  have Q1 := hid q1
  have bE := hid bW
  have hW2 := hid hW
  have l0 := q0.lt
  have l1 := q1.lt
  have HT := hid (h.keep bW)
  clear q0 q1 bW sW hW h
  have HS := hid (implSame_any b b' n n' c c' zs zs' W HT.out.s HT.out.s' HT.out.hn HT.out.hn')
  cases hk : sameL zs zs' with
  | false =>
    rw [samM_no hk]
    rw [hk] at HS
    clear hk
    go_enter Try.func10, Try.ntmps10
    go_wp2_with fail
    rw [← hW2.out]
    refine HS.out.mono ?_
    rintro e w1 ⟨rfl, hB1⟩
    go_wp2_with fail
    go_ret
    exact ⟨rfl, bE.out.trans (hB1.mono (by omega))⟩
  | true =>
    rw [samM_yes hk]
    rw [hk] at HS
    clear hk
    have HJ := hid (fun w1 (hB : Below W.heap.size W w1) => equalJ_any g g' m m' d d' js js' w1 (HT.out.keep hB).j (HT.out.keep hB).j' HT.out.hm HT.out.hm')
    go_enter Try.func10, Try.ntmps10
    go_wp2_with fail
    rw [← hW2.out]
    refine HS.out.mono ?_
    rintro e w1 ⟨rfl, hB1⟩
    have r0 := Q0.out.below hB1 l0
    have r1 := Q1.out.below hB1 l1
    have c1 := r0.cell 1
    have c3 := r1.cell 1
    simp only [List.getElem?_cons_zero, List.getElem?_cons_succ] at c1 c3
    clear r0 r1
    go_wp2_with fail
    refine (HJ.out w1 hB1).mono ?_
    rintro e w2 ⟨rfl, hB2⟩
    have hz1 := hB1.size
    clear c1 c3
    go_wp2_with fail
    go_ret
    exact ⟨rfl, bE.out.trans ((hB1.mono (by omega)).trans (hB2.mono (by omega)))⟩
set_option maxRecDepth 100000 in
set_option maxHeartbeats 4000000 in
theorem l02Same_any (B B' b n c g m d b' n' c' g' m' d' : Nat) (zs zs' : List Int) (js js' : List (Int × Int)) (W : World) (r0 : Row W B 31 [.slice (some ⟨b, 0, none⟩) n c, .slice (some ⟨g, 0, none⟩) m d]) (r1 : Row W B' 31 [.slice (some ⟨b', 0, none⟩) n' c', .slice (some ⟨g', 0, none⟩) m' d']) (h : TwoMo W b n g m b' n' g' m' zs zs' js js') :
    Calls Try.prog 23 #[.pointer (some ⟨B, 0, none⟩), .pointer (some ⟨B', 0, none⟩)] W fun e w' => e = .returned (.bool (samM zs zs' js js')) ∧ Below W.heap.size W w' := by
  have Q0 := hid r0
  have Q1 := hid r1
  have l0 := r0.lt
  have l1 := r1.lt
  have HT := hid h
  have HS := hid (fun q => specSameQ_any b b' n n' c c' zs zs' (W.drewN q) (HT.out.keep (below_drewN (Below.refl _ _) q)).s (HT.out.keep (below_drewN (Below.refl _ _) q)).s' HT.out.hn HT.out.hn')
  clear r0 r1 h
  cases hk : sameL zs zs' with
  | false =>
    rw [samM_no hk]
    rw [hk] at HS
    clear hk
    go_enter Try.func23, Try.ntmps23
    go_wp2_with fail
    have c0 := Q0.out.cell 0
    have c1 := Q0.out.cell 1
    have c2 := Q1.out.cell 0
    have c3 := Q1.out.cell 1
    simp only [List.getElem?_cons_zero, List.getElem?_cons_succ] at c0 c1 c2 c3
    have hb0 := Below.refl W.heap.size W
    have hqs := And.intro c0 (And.intro c1 (And.intro c2 c3))
    go_quiet ((go_at_call 45; exact quiet_dr (HS.out _)))
    go_wp2_with fail
    go_ret
    exact ⟨rfl, below_drewN (Below.refl _ _) _⟩
  | true =>
    rw [samM_yes hk]
    rw [hk] at HS
    clear hk
    have hml := HT.out.j.2.2
    have hml' := HT.out.j'.2.2
    rw [← HT.out.hm] at hml
    rw [← HT.out.hm'] at hml'
    by_cases hmm : m = m'
    · subst hmm
      have hne : ((m : Int) != (m : Int)) = false := by simp
      have hg : Try.prog.eqGuardType Try.prog.depth 60 = false := by kernel_rfl
      go_enter Try.func23, Try.ntmps23
      go_wp2_with fail
      have c0 := Q0.out.cell 0
      have c1 := Q0.out.cell 1
      have c2 := Q1.out.cell 0
      have c3 := Q1.out.cell 1
      simp only [List.getElem?_cons_zero, List.getElem?_cons_succ] at c0 c1 c2 c3
      have hb0 := Below.refl W.heap.size W
      have hqs := And.intro c0 (And.intro c1 (And.intro c2 c3))
      go_quiet ((go_at_call 45; exact quiet_dr (HS.out _)))
      go_wp2_with fail
      have T1 := hid HT.out
      have B1 := hid (Below.refl W.heap.size W)
      go_loopw [5] (fun i wr => ∃ k : Nat, k ≤ m ∧ i = .int .i64 k ∧ samJo js js' k ∧ ∃ q, wr = W.drewN q) (fun i _ => m - (intOf i).toNat)
      case atStart => exact ⟨0, Nat.zero_le _, rfl, fun j h => by omega, _, rfl⟩
      case round =>
        obtain ⟨k, hk, rfl, hok, q, rfl⟩ := hrel
        have HK := hid hok
        clear hok
        by_cases hlt : k < m
        · have cc := T1.out.j.2.1 k (by rw [← T1.out.hm]; exact hlt)
          have dd := T1.out.j'.2.1 k (by rw [← T1.out.hm']; exact hlt)
          have x1 := cc.1
          have x2 := cc.2
          have y1 := dd.1
          have y2 := dd.2
          have hlt' : (k : Int) < (m : Int) := by omega
          have hk0 : (0 : Int) ≤ (k : Int) := by omega
          obtain ⟨x, hx⟩ : ∃ z, jk js k = z := ⟨_, rfl⟩
          obtain ⟨y, hy⟩ : ∃ z, jf js k = z := ⟨_, rfl⟩
          obtain ⟨u, hu⟩ : ∃ z, jk js' k = z := ⟨_, rfl⟩
          obtain ⟨v, hv⟩ : ∃ z, jf js' k = z := ⟨_, rfl⟩
          rw [hx] at x1
          rw [hy] at x2
          rw [hu] at y1
          rw [hv] at y2
          have HH := hid (And.intro hx (And.intro hy (And.intro hu hv)))
          clear cc dd hx hy hu hv
          by_cases he : x = u ∧ y = v
          · have hE : ∀ w, Sem.run Try.prog (binOp .neq 60 (.agg #[.int .i8 x, .int .i16 y]) (.agg #[.int .i8 u, .int .i16 v])) w = .ok (.bool false) w := fun w => by
              rw [joint_neq]; simp [he.1, he.2]
            have HE := hid he
            clear he
            go_wp2_with fail
            go_quiet (fail)
            go_wp2_with fail
            go_roundw
            case rel => exact ⟨k + 1, by omega, by go_num, samJo_succ HK.out (by rw [HH.out.1, HH.out.2.1, HH.out.2.2.1, HH.out.2.2.2]; exact HE.out), _, rfl⟩
            case measure => simp [intOf]; omega
          · have hE : ∀ w, Sem.run Try.prog (binOp .neq 60 (.agg #[.int .i8 x, .int .i16 y]) (.agg #[.int .i8 u, .int .i16 v])) w = .ok (.bool true) w := fun w => by
              have e : (x == u && y == v) = false := by
                by_cases h1 : x = u
                · have h2 : ¬ y = v := fun h => he ⟨h1, h⟩
                  simp [h2]
                · simp [h1]
              rw [joint_neq, e]
              rfl
            have HF := hid (samJ_bad (js := js) (ks := js') k (by rw [← T1.out.hm]; exact hlt) (by rw [HH.out.1, HH.out.2.1, HH.out.2.2.1, HH.out.2.2.2]; exact he))
            clear he
            go_wp2_with fail
            go_quiet (fail)
            go_wp2_with fail
            go_ret
            exact ⟨by rw [HF.out]; rfl, B1.out.trans (below_drewN (below_drewN (Below.refl _ _) _) _)⟩
        · obtain rfl : k = m := by omega
          have HF := hid (samJ_yes (js := js) (ks := js') (by rw [← T1.out.hm, ← T1.out.hm']) (by rw [← T1.out.hm]; exact HK.out))
          go_wp2_with fail
          go_ret
          exact ⟨by rw [HF.out]; rfl, B1.out.trans (below_drewN (Below.refl _ _) _)⟩
    · have hne : ((m : Int) != (m' : Int)) = true := by simp only [bne_iff_ne, ne_eq]; omega
      have HF := hid (samJ_len (js := js) (ks := js') (by rw [← HT.out.hm, ← HT.out.hm']; exact hmm))
      go_enter Try.func23, Try.ntmps23
      go_wp2_with fail
      have c0 := Q0.out.cell 0
      have c1 := Q0.out.cell 1
      have c2 := Q1.out.cell 0
      have c3 := Q1.out.cell 1
      simp only [List.getElem?_cons_zero, List.getElem?_cons_succ] at c0 c1 c2 c3
      have hb0 := Below.refl W.heap.size W
      have hqs := And.intro c0 (And.intro c1 (And.intro c2 c3))
      go_quiet ((go_at_call 45; exact quiet_dr (HS.out _)))
      clear hmm
      go_wp2_with fail
      go_ret
      exact ⟨by rw [HF.out]; rfl, below_drewN (Below.refl _ _) _⟩
set_option maxHeartbeats 2000000 in
theorem specSameMotion_any (b n c g m d b' n' c' g' m' d' : Nat) (zs zs' : List Int) (js js' : List (Int × Int)) (w : World) (h : TwoMo w b n g m b' n' g' m' zs zs' js js') :
    Calls Try.prog 8 #[.agg #[.slice (some ⟨b, 0, none⟩) n c, .slice (some ⟨g, 0, none⟩) m d], .agg #[.slice (some ⟨b', 0, none⟩) n' c', .slice (some ⟨g', 0, none⟩) m' d']] w fun e w' => e = .returned (.bool (samM zs zs' js js')) ∧ Below w.heap.size w w' := by
  obtain ⟨W, hW⟩ : ∃ W, W = ((w.alloc (.cells #[.slice (some ⟨b, 0, none⟩) n c, .slice (some ⟨g, 0, none⟩) m d] 31)).alloc (.cells #[.slice (some ⟨b', 0, none⟩) n' c', .slice (some ⟨g', 0, none⟩) m' d'] 31)) := ⟨_, rfl⟩
  obtain ⟨q0, q1, bW, sW⟩ := two_b w 31 (.slice (some ⟨b, 0, none⟩) n c) (.slice (some ⟨g, 0, none⟩) m d) (.slice (some ⟨b', 0, none⟩) n' c') (.slice (some ⟨g', 0, none⟩) m' d') W hW
  have Q0 := hid q0
  have Q1 := hid q1
  have bE := hid bW
  have hW2 := hid hW
  have l0 := q0.lt
  have l1 := q1.lt
  have HT := hid (h.keep bW)
  clear q0 q1 bW sW hW h
  have HS := hid (l02Same_any w.heap.size (w.heap.size + 1) b n c g m d b' n' c' g' m' d' zs zs' js js' W Q0.out Q1.out HT.out)
  go_enter Try.func8, Try.ntmps8
  go_wp2_with fail
  rw [← hW2.out]
  refine HS.out.mono ?_
  rintro e w1 ⟨rfl, hB1⟩
  go_wp2_with fail
  go_ret
  exact ⟨rfl, bE.out.trans (hB1.mono (by omega))⟩
end Go.Proofs.Ythpoeaoikfekgaa
