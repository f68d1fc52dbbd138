/- Stories as told: the program's. -/
import Derived.Test.YtilbpgcgjbblaaaCsS
import Derived.Test.YtilbpgcgjbblaaaCsI
import Derived.Test.YtilbpgcgjbblaaaItvSN
import Derived.Test.YtilbpgcgjbblaaaValGI
import Derived.Test.YtilbpgcgjbblaaaRoundsD
namespace Go.Proofs.Ytilbpgcgjbblaaa
open Go.RowKit Go.Shelf Go.Maps
set_option linter.unusedVariables false
set_option linter.unusedSimpArgs false
theorem owns_base {w : World} {base base' size n : Nat} {e : TypeId} {v : Value} {xs : List Value} (h : w.ownsRow base e size v n xs) (hb : base' ≤ base) : w.ownsRow base' e size v n xs := by
  refine ⟨h.1, ?_⟩
  rcases h.2 with h0 | ⟨g, cap, cur, h1, h2, h3⟩
  · exact .inl h0
  · exact .inr ⟨g, cap, cur, h1, Nat.le_trans hb h2, h3⟩
theorem own_open {w : World} {base n : Nat} {v : Value} {js : List (Int × Int)} (h : w.ownsRow base 56 2 v n (tvals js)) (hl : js.length = n) (hz : 0 < w.heap.size) :
    ∃ (a : Option Addr) (cp g : Nat), v = .slice a n cp ∧ (n = 0 ∨ a = some ⟨g, 0, none⟩) ∧ g < w.heap.size ∧ ∀ j, j < n → w.cell? ⟨g, j * 2, none⟩ = some (.int .i64 (rd js j)) ∧ w.cell? ⟨g, j * 2 + 1, none⟩ = some (.int .i64 (rv js j)) := by
  rcases h.2 with ⟨rfl, rfl⟩ | ⟨g, cap, cur, rfl, h3, h4, h5, h6, h7, h8⟩
  · exact ⟨_, _, 0, rfl, .inl rfl, hz, fun j hj => by omega⟩
  · have hr : Row w g 56 (tvals js ++ cur.toList.drop (n * 2)) := by
      unfold Row
      rw [h4, ← h8, List.take_append_drop]
    exact ⟨_, _, g, rfl, .inr rfl, hr.lt, fun j hj => ⟨(hr.cell _).trans (tvals_get js _ j (by omega)).1, (hr.cell _).trans (tvals_get js _ j (by omega)).2⟩⟩
theorem RM.store {w : World} {g n G j : Nat} {M : DataW Unit} {u : Value} (h : RM w g n M) (hg : G ≠ g) : RM (w.setCell ⟨G, j, none⟩ u) g n M :=
  World.ownsMap.kept (row := some G) h ⟨rfl, rfl, rfl, by simp, fun i hi hne => Below.heap_setCell w ⟨G, j, none⟩ u i (fun e => hne (by rw [e]))⟩ (fun e => hg (Option.some.inj e).symm)
theorem wpIn_calm {F : Fence} {rm : Nat} {P : Program} {s : Code} {K : Act → World → Prop} {Q' : Exit → Act → World → Prop} {a : Act} {w : World} (h : s.wpIn F rm P (Exit.then K (fun _ _ _ => False)) a w) : s.wpIn F rm P (Exit.then K Q') a w := by
  refine wpIn_mono h ?_
  intro e a' w' hq
  cases e <;> first | exact hq | exact hq.elim
theorem rm_row {w : World} {g n : Nat} {M : DataW Unit} {e : TypeId} {xs : List Value} (hr : Row w g e xs) : ¬ RM w g n M := fun h => by
  obtain ⟨es, hg, _⟩ := h
  unfold Row at hr
  simp_all
theorem owns_setG {w : World} {base n G : Nat} {v u : Value} {xs ys : List Value} (h : w.ownsRow base 56 2 v n xs) (hr : Row w G 75 ys) : (w.setCell ⟨G, 0, none⟩ u).ownsRow base 56 2 v n xs := by
  obtain ⟨h1, h2 | ⟨q, cap, cur, rfl, h3, h4, r⟩⟩ := h
  · exact ⟨h1, .inl h2⟩
  · refine ⟨h1, .inr ⟨q, cap, cur, rfl, h3, (Below.heap_setCell w ⟨G, 0, none⟩ _ q (fun e => ?_)).trans h4, r⟩⟩
    have e' : q = G := e
    subst e'
    unfold Row at hr
    rw [hr] at h4
    simp only [Option.some.injEq, Obj.cells.injEq] at h4
    exact absurd h4.2.1 (by decide)
/-- the boxes of explains -/
def ExW (X G Mb Bk : Nat) (ys : List Value) (st : Value) (lo hi cnt : Int) (r : Bool) (W : World) : Prop :=
  Row W Bk 3 [.int .i64 cnt] ∧ Row W X 44 ys ∧ Row W (X + 1) 27 [st] ∧ Row W (X + 2) 42 [.int .i64 lo, .int .i64 hi] ∧ Row W (X + 3) 4 [.bool r] ∧ Row W G 75 [.map (some Mb)]
section
variable {X G Mb Bk : Nat} {ys : List Value} {st : Value} {lo hi cnt : Int} {r : Bool} {A B : World}
theorem ExW.kept {row : Option Nat} (h : ExW X G Mb Bk ys st lo hi cnt r A) (hg : A.grownBy B row) (hr : ∀ r, row = some r → ∃ o : Obj, A.heap[r]? = some o ∧ o.isCells = false) : ExW X G Mb Bk ys st lo hi cnt r B :=
  ⟨row_kept h.1 hg hr, row_kept h.2.1 hg hr, row_kept h.2.2.1 hg hr, row_kept h.2.2.2.1 hg hr, row_kept h.2.2.2.2.1 hg hr, row_kept h.2.2.2.2.2 hg hr⟩
theorem ExW.keep (h : ExW X G Mb Bk ys st lo hi cnt r A) (hb : Below A.heap.size A B) : ExW X G Mb Bk ys st lo hi cnt r B :=
  ⟨h.1.below hb h.1.lt, h.2.1.below hb h.2.1.lt, h.2.2.1.below hb h.2.2.1.lt, h.2.2.2.1.below hb h.2.2.2.1.lt, h.2.2.2.2.1.below hb h.2.2.2.2.1.lt, h.2.2.2.2.2.below hb h.2.2.2.2.2.lt⟩
theorem ExW.count (cnt' : Int) (h : ExW X G Mb Bk ys st lo hi cnt r A) (h1 : X + 3 < Bk) (h2 : G ≠ Bk) : ExW X G Mb Bk ys st lo hi cnt' r (A.setCell ⟨Bk, 0, none⟩ (.int .i64 cnt')) :=
  ⟨h.1.set 0 _, h.2.1.other (a := ⟨Bk, 0, none⟩) (by show Bk ≠ X; omega) _, h.2.2.1.other (a := ⟨Bk, 0, none⟩) (by show Bk ≠ X + 1; omega) _, h.2.2.2.1.other (a := ⟨Bk, 0, none⟩) (by show Bk ≠ X + 2; omega) _, h.2.2.2.2.1.other (a := ⟨Bk, 0, none⟩) (by show Bk ≠ X + 3; omega) _, h.2.2.2.2.2.other (a := ⟨Bk, 0, none⟩) (by show Bk ≠ G; omega) _⟩
theorem ExW.back (r' : Bool) (h : ExW X G Mb Bk ys st lo hi cnt r A) (h1 : X + 3 < Bk) (h2 : X + 3 < G) : ExW X G Mb Bk ys st lo hi cnt r' (A.setCell ⟨X + 3, 0, none⟩ (.bool r')) :=
  ⟨h.1.other (a := ⟨X + 3, 0, none⟩) (by show X + 3 ≠ Bk; omega) _, h.2.1.other (a := ⟨X + 3, 0, none⟩) (by show X + 3 ≠ X; omega) _, h.2.2.1.other (a := ⟨X + 3, 0, none⟩) (by show X + 3 ≠ X + 1; omega) _, h.2.2.2.1.other (a := ⟨X + 3, 0, none⟩) (by show X + 3 ≠ X + 2; omega) _, h.2.2.2.2.1.set 0 _, h.2.2.2.2.2.other (a := ⟨X + 3, 0, none⟩) (by show X + 3 ≠ G; omega) _⟩
end
/-- breaks that came up among some intervals -/
def brkF {m : Nat} (ks bs : List Int) (pre : List (Fin m)) : Nat := (pre.filter fun x => hasL bs (lv ks (x.1 + 1))).length
theorem brkF_yes {m : Nat} {ks bs : List Int} (pre : List (Fin m)) (x : Fin m) (h : hasL bs (lv ks (x.1 + 1)) = true) : brkF ks bs (pre ++ [x]) = brkF ks bs pre + 1 := by simp [brkF, h]
theorem brkF_no {m : Nat} {ks bs : List Int} (pre : List (Fin m)) (x : Fin m) (h : hasL bs (lv ks (x.1 + 1)) = false) : brkF ks bs (pre ++ [x]) = brkF ks bs pre := by simp [brkF, h]
theorem brkF_le {m : Nat} (ks bs : List Int) (pre : List (Fin m)) : brkF ks bs pre ≤ pre.length := List.length_filter_le _ _
theorem brkF_take {m : Nat} (ks bs : List Int) : ∀ k, k ≤ m → brkF ks bs ((List.finRange m).take k) = brkN ks bs k
  | 0, _ => by simp [brkF, brkN]
  | k + 1, h => by
    rw [finTake_succ m k (by omega), brkN]
    cases hv : hasL bs (lv ks (k + 1)) with
    | true => rw [brkF_yes _ _ hv, brkF_take ks bs k (by omega)]; simp
    | false => rw [brkF_no _ _ hv, brkF_take ks bs k (by omega)]; simp
theorem brkF_all {m : Nat} (ks bs : List Int) : brkF ks bs (List.finRange m) = brkN ks bs m := by
  have := brkF_take (m := m) ks bs m (Nat.le_refl _)
  rwa [finTake_all m] at this
attribute [local go_sem] Oper.semAt_some
set_option maxRecDepth 100000 in
set_option maxHeartbeats 4000000 in
theorem explains_any (bS nS capS : Nat) (zs : List Int) (hnS : nS = zs.length) (b n cap : Nat) (js : List (Int × Int)) (hn : n = js.length) (lo hi : Int) (bk nk ck bb nb cb : Nat) (ks bs : List Int) (c : Int) (hnk : nk = ks.length) (hnb : nb = bs.length) (w : World)
    (hS : Stk w bS zs) (hR : Rst w b js) (hK : Lst w bk ks) (hBr : Lst w bb bs) (hg : okG zs js = true) (hf : okF lo hi = true) :
    Calls Try.prog 36 #[.agg #[.slice (some ⟨bk, 0, none⟩) nk ck, .slice (some ⟨bb, 0, none⟩) nb cb, .int .i64 c], .slice (some ⟨bS, 0, none⟩) nS capS, .slice (some ⟨b, 0, none⟩) n cap, .agg #[.int .i64 lo, .int .i64 hi]] w (GivesB w (.bool (tellB (szL zs) js lo hi ks bs c))) := by
  obtain ⟨gv, g40, g1, g2⟩ := okG_out hg
  obtain ⟨f1, f2, f3⟩ := okF_out hf
  obtain ⟨_, _, _, z1, z2⟩ := okL_out gv
  have n40 : n ≤ 40 := by omega
  have hmono : ∀ d i, i + d + 1 < js.length → rd js i < rd js (i + d + 1) := by
    intro d
    induction d with
    | zero => intro i hi'; have := g2 i (by omega); simpa using this
    | succ d ih => intro i hi'; have a1 := ih i (by omega); have a2 := g2 (i + d + 1) (by omega); rw [show i + (d + 1) + 1 = i + d + 1 + 1 by omega]; omega
  have hlt2 : ∀ i k, i < k → k < js.length → rd js i < rd js k := fun i k hik hk => by
    have := hmono (k - i - 1) i (by omega)
    rwa [show i + (k - i - 1) + 1 = k by omega] at this
  have hinj : ∀ i j, i < js.length → j < js.length → rd js i = rd js j → i = j := fun i j h1 h2 e => by
    rcases Nat.lt_trichotomy i j with q | q | q
    · have := hlt2 i j q h2; omega
    · exact q
    · have := hlt2 j i q h1; omega
  have h64 : ∀ i, i < js.length → I64 (rd js i) ∧ I64 (rv js i) := fun i h => by
    have := okRd_out (g1 i (by omega))
    unfold I64; omega
  -- the boxes
  have rX0 := Row.new w 44 [.slice (some ⟨bk, 0, none⟩) nk ck, .slice (some ⟨bb, 0, none⟩) nb cb, .int .i64 c]
  have rS0 := Row.new (w.alloc (.cells #[.slice (some ⟨bk, 0, none⟩) nk ck, .slice (some ⟨bb, 0, none⟩) nb cb, .int .i64 c] 44)) 27 [.slice (some ⟨bS, 0, none⟩) nS capS]
  have rF0 := Row.new ((w.alloc (.cells #[.slice (some ⟨bk, 0, none⟩) nk ck, .slice (some ⟨bb, 0, none⟩) nb cb, .int .i64 c] 44)).alloc (.cells #[.slice (some ⟨bS, 0, none⟩) nS capS] 27)) 42 [.int .i64 lo, .int .i64 hi]
  have rB0 := Row.new (((w.alloc (.cells #[.slice (some ⟨bk, 0, none⟩) nk ck, .slice (some ⟨bb, 0, none⟩) nb cb, .int .i64 c] 44)).alloc (.cells #[.slice (some ⟨bS, 0, none⟩) nS capS] 27)).alloc (.cells #[.int .i64 lo, .int .i64 hi] 42)) 4 [.bool false]
  simp only [World.size_alloc] at rS0 rF0 rB0
  obtain ⟨X, hX⟩ : ∃ F, w.heap.size = F := ⟨_, rfl⟩
  obtain ⟨V, hV⟩ : ∃ V, V = (((w.alloc (.cells #[.slice (some ⟨bk, 0, none⟩) nk ck, .slice (some ⟨bb, 0, none⟩) nb cb, .int .i64 c] 44)).alloc (.cells #[.slice (some ⟨bS, 0, none⟩) nS capS] 27)).alloc (.cells #[.int .i64 lo, .int .i64 hi] 42)).alloc (.cells #[.bool false] 4) := ⟨_, rfl⟩
  have sV : V.heap.size = X + 4 := by rw [hV]; simp [hX]
  have bV : Below w.heap.size w V := by rw [hV]; exact ((((Below.refl _ w).alloc (Nat.le_refl _) _).alloc (by simp) _).alloc (by simp; omega) _).alloc (by simp; omega) _
  have rX : Row V X 44 [.slice (some ⟨bk, 0, none⟩) nk ck, .slice (some ⟨bb, 0, none⟩) nb cb, .int .i64 c] := by rw [hV, ← hX]; exact ((rX0.alloc _).alloc _).alloc _
  have rS : Row V (X + 1) 27 [.slice (some ⟨bS, 0, none⟩) nS capS] := by rw [hV, ← hX]; exact (rS0.alloc _).alloc _
  have rF : Row V (X + 2) 42 [.int .i64 lo, .int .i64 hi] := by rw [hV, ← hX]; exact rF0.alloc _
  have rB : Row V (X + 3) 4 [.bool false] := by rw [hV, ← hX]; exact rB0
  have HLT := hid (show bS < X ∧ b < X ∧ bk < X ∧ bb < X from by have a1 := hS.1; have a2 := hR.1; have a3 := hK.1; have a4 := hBr.1; omega)
  have HS0 := hid hS
  have HS := hid (hS.below bV hS.1); have HR := hid (hR.below bV hR.1); have HK := hid (hK.below bV hK.1); have HBR := hid (hBr.below bV hBr.1)
  have RX := hid rX; have RS := hid rS; have RF := hid rF; have RB := hid rB; have BV := hid bV; have HV := hid hV; have HX := hid hX; have SV := hid sV
  have HNK := hid hnk; have HNB := hid hnb; have HN := hid hn
  have HRK := hid (fun W (hW : Lst W bk ks) => areInd_any bk nk ck ks hnk (some ⟨b, 0, none⟩) n cap (by omega) W hW)
  have HRB := hid (fun W (hW : Lst W bb bs) => areInd_any bb nb cb bs hnb (some ⟨b, 0, none⟩) n cap (by omega) W hW)
  have KP := hid (fun (h : riseB ks n = true) W (h1 : Lst W bk ks) (h2 : Rst W b js) => kept_any bk nk ck bb nb cb ks c hnk b n cap js hn n40 h W h1 h2)
  have BK := hid (fun (h : riseB bs n = true) W (h1 : Lst W bb bs) (h2 : Rst W b js) => broken_any bk nk ck bb nb cb bs c hnb b n cap js hn n40 h hinj h64 W h1 h2)
  have HPS := hid (fun (i k : Nat) (hik : i < k) (hk : k < n) W (s : Stk W bS zs) => show Calls Try.prog 59 #[.slice (some ⟨bS, 0, none⟩) nS capS, .agg #[.int .i64 (rd js i), .int .i64 (rv js i), .int .i64 (rd js k), .int .i64 (rv js k)], .agg #[.int .i64 lo, .int .i64 hi]] W (GivesB W (.bool (fitK (szL zs) js lo hi i k))) from by
    have o1 := okRd_out (g1 i (by omega))
    have o2 := okRd_out (g1 k (by omega))
    have := hlt2 i k hik (by omega)
    exact possible_any bS nS capS zs hnS gv (rd js i) (rv js i) (rd js k) (rv js k) lo hi (by omega) (by omega) (by omega) (by omega) W s)
  have H64 := hid h64
  have hlk := hK.2.2.2; have hlb := hBr.2.2.2
  rw [← hnk] at hlk
  rw [← hnb] at hlb
  have T1 := hid (fun h => tell_1 (z := szL zs) (js := js) (lo := lo) (hi := hi) (ks := ks) (bs := bs) (c := c) (by rw [← hn]; exact h))
  have T2 := hid (fun h => tell_2 (z := szL zs) (js := js) (lo := lo) (hi := hi) (ks := ks) (bs := bs) (c := c) (by rw [← hn]; exact h))
  have T3 := hid (fun h h2 => tell_3 (z := szL zs) (js := js) (lo := lo) (hi := hi) (ks := ks) (bs := bs) (c := c) h h2)
  have T5 := hid (fun j h h2 => tell_5 (z := szL zs) (js := js) (lo := lo) (hi := hi) (ks := ks) (bs := bs) (c := c) (j := j) h h2)
  have T7 := hid (fun h1 h2 h3 h5 => tell_7 (z := szL zs) (js := js) (lo := lo) (hi := hi) (ks := ks) (bs := bs) (c := c) (by rw [← hn]; exact h1) (by rw [← hn]; exact h2) h3 h5)
  obtain ⟨r, hr⟩ : ∃ r, tellB (szL zs) js lo hi ks bs c = r := ⟨_, rfl⟩
  rw [hr] at T1 T2 T3 T5 T7 ⊢
  obtain ⟨z, hz⟩ : ∃ z, szL zs = z := ⟨_, rfl⟩
  rw [hz] at HPS T5 T7
  obtain ⟨rk, hrk⟩ : ∃ r, riseB ks n = r := ⟨_, rfl⟩
  obtain ⟨rb, hrb⟩ : ∃ r, riseB bs n = r := ⟨_, rfl⟩
  have HRK2 := hid hrk; have HRB2 := hid hrb
  rw [hrk] at HRK T1 T7 KP
  rw [hrb] at HRB T2 T7 BK
  have G1 : Fence.wide.fn 58 := trivial
  have G2 : Fence.wide.fn 42 := trivial
  have G3 : Fence.wide.fn 40 := trivial
  have G4 : Fence.wide.fn 41 := trivial
  have G5 : Fence.wide.fn 59 := trivial
  have hm : 1 ≤ 8 := by omega
  have x0 := rX.cell 0; have x1 := rX.cell 1; have x2 := rX.cell 2
  simp only [List.getElem?_cons_zero, List.getElem?_cons_succ] at x0 x1 x2
  obtain ⟨gB, hgB⟩ : ∃ g : Bool, g = (!rk || (!rb || (decide (nk = 0) && decide (0 < n)))) := ⟨_, rfl⟩
  have HGB := hid hgB
  clear hS hR hK hBr rX0 rS0 rF0 rB0 rX rS rF rB bV hV sV hX hnk hnb hn gv g40 g1 g2 f1 f2 f3 z1 z2 hg hf hr hz hrk hrb hnS hmono hlt2 hinj h64 hgB
  refine (callsIn_wide (n := 8)).1 ?_
  refine callsIn_of_wp_marks Try.func36 rfl trivial ?_ rfl
  simp only [Try.ntmps36, List.size_toArray, List.length_cons, List.length_nil, Nat.reduceAdd, Nat.reduceSub, Array.replicate_succ, Array.replicate_zero, List.push_toArray, List.append_toArray, List.nil_append, List.cons_append]
  gi_upto_region 1 with fail
  rw [← HV.out]
  try rw [HX.out]
  rw [show X + 1 + 1 + 1 = X + 3 from rfl, show X + 1 + 1 = X + 2 from rfl]
  gi_cut [37] from 15 (fun s37 wx => V = wx ∧ s37 = .bool gB)
  case first =>
    have LK := HK.out; have LB := HBR.out
    cases rk with
    | false =>
      gi_wp2_with (first | ((with_reducible refine wpListIn_skip ?_ ?_ ?_); rfl; rfl) | (gi_at_call 58; refine (callsIn_wide.2 (HRK.out V LK)).mono ?_; rintro e w1 ⟨rfl, hw⟩; subst hw))
      gi_meet
      exact ⟨rfl, by rw [HGB.out]; rfl⟩
    | true =>
      cases rb with
      | false =>
        gi_wp2_with (first | ((with_reducible refine wpListIn_skip ?_ ?_ ?_); rfl; rfl) | (gi_at_call 58; first | (with_reducible refine (callsIn_wide.2 (HRK.out V LK)).mono ?_; rintro e w1 ⟨rfl, hw⟩; subst hw) | (with_reducible refine (callsIn_wide.2 (HRB.out _ LB)).mono ?_; rintro e w1 ⟨rfl, hw⟩; subst hw)))
        gi_meet
        exact ⟨rfl, by rw [HGB.out]; rfl⟩
      | true =>
        by_cases hn0 : nk = 0
        · have e0 : (((nk : Nat) : Int) == 0) = true := by simp [hn0]
          have HN0 := hid hn0
          clear hn0
          by_cases hp : 0 < n
          · have e1 : (0 : Int) < (n : Int) := by omega
            gi_wp2_with (first | ((with_reducible refine wpListIn_skip ?_ ?_ ?_); rfl; rfl) | (gi_at_call 58; first | (with_reducible refine (callsIn_wide.2 (HRK.out V LK)).mono ?_; rintro e w1 ⟨rfl, hw⟩; subst hw) | (with_reducible refine (callsIn_wide.2 (HRB.out _ LB)).mono ?_; rintro e w1 ⟨rfl, hw⟩; subst hw)))
            gi_meet
            exact ⟨rfl, by rw [HGB.out]; simp [HN0.out, hp]⟩
          · have e1 : ¬ (0 : Int) < (n : Int) := by omega
            gi_wp2_with (first | ((with_reducible refine wpListIn_skip ?_ ?_ ?_); rfl; rfl) | (gi_at_call 58; first | (with_reducible refine (callsIn_wide.2 (HRK.out V LK)).mono ?_; rintro e w1 ⟨rfl, hw⟩; subst hw) | (with_reducible refine (callsIn_wide.2 (HRB.out _ LB)).mono ?_; rintro e w1 ⟨rfl, hw⟩; subst hw)))
            gi_meet
            exact ⟨rfl, by rw [HGB.out]; simp [HN0.out, hp]⟩
        · have e0 : (((nk : Nat) : Int) == 0) = false := by
            have : ¬ ((nk : Nat) : Int) = 0 := by omega
            simpa using this
          gi_wp2_with (first | ((with_reducible refine wpListIn_skip ?_ ?_ ?_); rfl; rfl) | (gi_at_call 58; first | (with_reducible refine (callsIn_wide.2 (HRK.out V LK)).mono ?_; rintro e w1 ⟨rfl, hw⟩; subst hw) | (with_reducible refine (callsIn_wide.2 (HRB.out _ LB)).mono ?_; rintro e w1 ⟨rfl, hw⟩; subst hw)))
          gi_meet
          exact ⟨rfl, by rw [HGB.out]; simp [hn0]⟩
  case rest =>
    obtain ⟨rfl, rfl⟩ := hcut
    cases gB with
    | true =>
      have hfalse : r = false := by
        have h := HGB.out
        cases rk with
        | false => exact T1.out rfl
        | true =>
          cases rb with
          | false => exact T2.out rfl
          | true =>
            simp at h
            exact T3.out (by rw [← HNK.out]; exact h.1) (by rw [← HN.out]; exact h.2)
      subst hfalse
      have f3 := RB.out.frozen 0; have y3 := RB.out.cell 0
      have s3 := RB.out.set 0 (.bool false)
      have k3 := s3.cell 0
      simp only [List.set_cons_zero, List.getElem?_cons_zero, List.getElem?_cons_succ] at y3 k3
      clear x0 x1 x2
      gi_wp2
      exact ⟨.bool false, by simp [results, Try.f36, go_sem, k3], rfl, BV.out.setCell (p := ⟨X + 3, 0, none⟩) (by show w.heap.size ≤ X + 3; have := HX.out; omega) _⟩
    | false =>
      have hgb := HGB.out
      obtain rfl : rk = true := by
        cases rk with
        | false => simp at hgb
        | true => rfl
      obtain rfl : rb = true := by
        cases rb with
        | false => simp at hgb
        | true => rfl
      have HD := hid (show ¬ (ks.length = 0 ∧ 0 < js.length) from by
        rw [← HNK.out, ← HN.out]; simp at hgb; intro h; have := hgb h.1; omega)
      clear hgb x0 x1 x2
      gi_upto_region 3 with fail
      gi_cut [9, 10] from 38 (fun s9 s10 wx => ∃ (v : Value) (G Mb : Nat) (M : DataW Unit), s9 = v ∧ s10 = .pointer (some ⟨G, 0, none⟩) ∧ (X + 4 ≤ G ∧ X + 4 ≤ Mb) ∧ wx.ownsRow (X + 4) 56 2 v nk (tvals (gth js ks nk)) ∧ RM wx Mb nb M ∧ BkM js bs nb M ∧ Row wx G 75 [.map (some Mb)] ∧ Below V.heap.size V wx)
      case first =>
        refine wpIn_calm ?_
        refine region_held (S := fun W' : World => Row W' X 44 [.slice (some ⟨bk, 0, none⟩) nk ck, .slice (some ⟨bb, 0, none⟩) nb cb, .int .i64 c]) (by kernel_rfl) (by kernel_rfl) (fun hnd => ?_)
        obtain ⟨W0, hW0⟩ : ∃ x, x = World.drew V := ⟨_, rfl⟩
        have q : Below V.heap.size V W0 := by rw [hW0]; exact (Below.refl _ _).drew
        rw [← hW0]
        clear hW0
        refine anyS_takeD (some 38) (i := 0) (v := ?_) hnd rfl rfl (by kernel_rfl) (by kernel_rfl) (by kernel_rfl) (fun _ _ _ h => h) ⟨by rfl, ?_, fun _ => rfl⟩ (RX.out.below q (by have := SV.out; omega)) ?_
        rotate_left
        · intro w' hw'; have g0 := Row.cell hw' 0; have g1 := Row.cell hw' 1; have g2 := Row.cell hw' 2; simp only [List.getElem?_cons_zero, List.getElem?_cons_succ] at g0 g1 g2; clear hw'; go_simp; try with_reducible rfl
        try simp only [Act.put, List.setIfInBounds_toArray, List.set_cons_zero, List.set_cons_succ]
        refine anyS_takeD (some 39) (i := 1) (v := ?_) hnd rfl rfl (by kernel_rfl) (by kernel_rfl) (by kernel_rfl) (fun _ _ _ h => h) ⟨by rfl, ?_, fun _ => rfl⟩ (RX.out.below q (by have := SV.out; omega)) ?_
        rotate_left
        · intro w' hw'; go_simp; try with_reducible rfl
        try simp only [Act.put, List.setIfInBounds_toArray, List.set_cons_zero, List.set_cons_succ]
        refine anyS_takeD (some 41) (i := 3) (v := ?_) hnd rfl rfl (by kernel_rfl) (by kernel_rfl) (by kernel_rfl) (fun _ _ _ h => h) ⟨by rfl, ?_, fun _ => rfl⟩ (RX.out.below q (by have := SV.out; omega)) ?_
        rotate_left
        · intro w' hw'; have g0 := Row.cell hw' 0; have g1 := Row.cell hw' 1; have g2 := Row.cell hw' 2; simp only [List.getElem?_cons_zero, List.getElem?_cons_succ] at g0 g1 g2; clear hw'; go_simp; try with_reducible rfl
        try simp only [Act.put, List.setIfInBounds_toArray, List.set_cons_zero, List.set_cons_succ]
        refine anyS_takeD (some 42) (i := 4) (v := ?_) hnd rfl rfl (by kernel_rfl) (by kernel_rfl) (by kernel_rfl) (fun _ _ _ h => h) ⟨by rfl, ?_, fun _ => rfl⟩ (RX.out.below q (by have := SV.out; omega)) ?_
        rotate_left
        · intro w' hw'; go_simp; try with_reducible rfl
        try simp only [Act.put, List.setIfInBounds_toArray, List.set_cons_zero, List.set_cons_succ]
        refine anyS_two (i := 2) (k := 6) (by kernel_rfl) rfl rfl (by rfl) (by rfl) (fun K hKK => ?_) (fun K hKK => ?_)
        · go_simp
          first | (with_reducible refine ⟨trivial, (callsIn_wide.2 (KP.out (by first | rfl | trivial) W0 (HK.out.below q (by have := SV.out; have := HLT.out; omega)) (HR.out.below q (by have := SV.out; have := HLT.out; omega)))).mono ?_⟩) | (with_reducible refine (callsIn_wide.2 (KP.out (by first | rfl | trivial) W0 (HK.out.below q (by have := SV.out; have := HLT.out; omega)) (HR.out.below q (by have := SV.out; have := HLT.out; omega)))).mono ?_)
          rintro e vk ⟨v, rfl, ow, hB⟩
          dsimp only
          try replace OWK := hid (owns_belowP OWK.out hB)
          try replace RG := hid (RG.out.below hB RG.out.lt)
          have OWK := hid (owns_base ow (show X + 4 ≤ _ by have := q.size; have := SV.out; omega))
          clear ow
          replace q := q.trans (hB.mono q.size)
          clear hB
          refine hKK _ _ (RX.out.below q (by have := SV.out; omega)) ?_
          try simp only [Act.put, List.setIfInBounds_toArray, List.set_cons_zero, List.set_cons_succ]
          clear hKK K
          refine anyS_two (i := 5) (k := 6) (by kernel_rfl) rfl rfl (by rfl) (by rfl) (fun K hKK => ?_) (fun K hKK => ?_)
          · try have GLW := hid (show G < vk.heap.size from RG.out.lt)
            go_simp
            first | (with_reducible refine ⟨trivial, (callsIn_wide.2 (BK.out (by first | rfl | trivial) vk (HBR.out.below q (by have := SV.out; have := HLT.out; omega)) (HR.out.below q (by have := SV.out; have := HLT.out; omega)))).mono ?_⟩) | (with_reducible refine (callsIn_wide.2 (BK.out (by first | rfl | trivial) vk (HBR.out.below q (by have := SV.out; have := HLT.out; omega)) (HR.out.below q (by have := SV.out; have := HLT.out; omega)))).mono ?_)
            rintro e vb ⟨M, rfl, hM, hBk, hB⟩
            dsimp only
            try replace OWK := hid (owns_belowP OWK.out hB)
            try replace RG := hid (RG.out.below hB RG.out.lt)
            have MB := hid (show X + 4 ≤ vk.heap.size + 1 by have := q.size; have := SV.out; omega)
            have GMB := hid (show ∀ g, g < vk.heap.size → g ≠ vk.heap.size + 1 from fun g h => by omega)
            have HM := hid hM; have HBK := hid hBk
            obtain ⟨Mb, hMb⟩ : ∃ x, vk.heap.size + 1 = x := ⟨_, rfl⟩
            try have GL := hid (show G ≠ Mb by rw [← hMb]; exact GMB.out G GLW.out)
            rw [hMb] at MB HM hM ⊢
            have HMLT := hid hM.lt
            clear hM hBk hMb GMB
            replace q := q.trans (hB.mono q.size)
            clear hB
            refine hKK _ _ (RX.out.below q (by have := SV.out; omega)) ?_
            try simp only [Act.put, List.setIfInBounds_toArray, List.set_cons_zero, List.set_cons_succ]
            clear hKK K
            refine anyS_call (i := 6) (by kernel_rfl) rfl (by rfl) (fun K hKK => ?_)
            go_simp
            have RG := hid (Row.new vb 75 [.map none])
            have hA : Below vb.heap.size vb (vb.alloc (.cells #[.map none] 75)) := (Below.refl _ _).alloc (Nat.le_refl _) _
            have GZ := hid (show X + 4 ≤ vb.heap.size by have := q.size; have := SV.out; omega)
            try replace OWK := hid (owns_belowP OWK.out hA)
            try (replace HM := hid (HM.out.below hA))
            try have GL := hid (show vb.heap.size ≠ Mb by have := HMLT.out; omega)
            replace q := q.trans (hA.mono q.size)
            refine hKK _ _ (RX.out.below q (by have := SV.out; omega)) ?_
            try simp only [Act.put, List.setIfInBounds_toArray, List.set_cons_zero, List.set_cons_succ]
            obtain ⟨G, hG⟩ : ∃ x, vb.heap.size = x := ⟨_, rfl⟩
            obtain ⟨va, hva⟩ : ∃ x, x = vb.alloc (.cells #[.map none] 75) := ⟨_, rfl⟩
            rw [← hva] at RG q hA ⊢
            try rw [← hva] at OWK
            try rw [← hva] at HM
            rw [hG] at RG GZ ⊢
            try rw [hG] at GL
            have GLT := hid (show G < va.heap.size from RG.out.lt)
            clear hva hA hG
            clear hKK K
            refine anyS_takeD (some 9) (i := 7) (v := ?_) hnd rfl rfl (by kernel_rfl) (by kernel_rfl) (by kernel_rfl) (fun _ _ _ h => h) ⟨by rfl, ?_, fun _ => rfl⟩ (RX.out.below q (by have := SV.out; omega)) ?_
            rotate_left
            · intro w' hw'; go_simp; try with_reducible rfl
            try simp only [Act.put, List.setIfInBounds_toArray, List.set_cons_zero, List.set_cons_succ]
            refine anyS_call (i := 8) (by kernel_rfl) rfl (by rfl) (fun K hKK => ?_)
            have fg := RG.out.frozen 0; have cg := RG.out.cell 0
            simp only [List.getElem?_cons_zero, List.getElem?_cons_succ] at cg
            go_simp
            have OW2 := hid (owns_setG (u := .map (some Mb)) OWK.out RG.out)
            have HM2 := hid (HM.out.store (j := 0) (u := .map (some Mb)) GL.out)
            have RG2 := hid (RG.out.set 0 (.map (some Mb)))
            replace q := q.setCell (p := ⟨G, 0, none⟩) (by show V.heap.size ≤ G; have := GZ.out; have := SV.out; omega) (.map (some Mb))
            refine hKK _ _ (RX.out.below q (by have := SV.out; omega)) ?_
            try simp only [Act.put, List.setIfInBounds_toArray, List.set_cons_zero, List.set_cons_succ]
            clear fg cg
            clear hKK K
            refine anyS_done (by kernel_rfl) ?_ _
            gi_wp2
            gi_meet
            exact ⟨_, _, _, M, rfl, rfl, ⟨GZ.out, MB.out⟩, OW2.out, HM2.out, HBK.out, RG2.out, q⟩
          · go_simp
            have RG := hid (Row.new vk 75 [.map none])
            have hA : Below vk.heap.size vk (vk.alloc (.cells #[.map none] 75)) := (Below.refl _ _).alloc (Nat.le_refl _) _
            have GZ := hid (show X + 4 ≤ vk.heap.size by have := q.size; have := SV.out; omega)
            try replace OWK := hid (owns_belowP OWK.out hA)
            try (replace HM := hid (HM.out.below hA))
            try have GL := hid (show vk.heap.size ≠ Mb by have := HMLT.out; omega)
            replace q := q.trans (hA.mono q.size)
            refine hKK _ _ (RX.out.below q (by have := SV.out; omega)) ?_
            try simp only [Act.put, List.setIfInBounds_toArray, List.set_cons_zero, List.set_cons_succ]
            obtain ⟨G, hG⟩ : ∃ x, vk.heap.size = x := ⟨_, rfl⟩
            obtain ⟨va, hva⟩ : ∃ x, x = vk.alloc (.cells #[.map none] 75) := ⟨_, rfl⟩
            rw [← hva] at RG q hA ⊢
            try rw [← hva] at OWK
            try rw [← hva] at HM
            rw [hG] at RG GZ ⊢
            try rw [hG] at GL
            have GLT := hid (show G < va.heap.size from RG.out.lt)
            clear hva hA hG
            clear hKK K
            refine anyS_call (i := 5) (by kernel_rfl) rfl (by rfl) (fun K hKK => ?_)
            try have GLW := hid (show G < va.heap.size from RG.out.lt)
            go_simp
            first | (with_reducible refine ⟨trivial, (callsIn_wide.2 (BK.out (by first | rfl | trivial) va (HBR.out.below q (by have := SV.out; have := HLT.out; omega)) (HR.out.below q (by have := SV.out; have := HLT.out; omega)))).mono ?_⟩) | (with_reducible refine (callsIn_wide.2 (BK.out (by first | rfl | trivial) va (HBR.out.below q (by have := SV.out; have := HLT.out; omega)) (HR.out.below q (by have := SV.out; have := HLT.out; omega)))).mono ?_)
            rintro e vb ⟨M, rfl, hM, hBk, hB⟩
            dsimp only
            try replace OWK := hid (owns_belowP OWK.out hB)
            try replace RG := hid (RG.out.below hB RG.out.lt)
            have MB := hid (show X + 4 ≤ va.heap.size + 1 by have := q.size; have := SV.out; omega)
            have GMB := hid (show ∀ g, g < va.heap.size → g ≠ va.heap.size + 1 from fun g h => by omega)
            have HM := hid hM; have HBK := hid hBk
            obtain ⟨Mb, hMb⟩ : ∃ x, va.heap.size + 1 = x := ⟨_, rfl⟩
            try have GL := hid (show G ≠ Mb by rw [← hMb]; exact GMB.out G GLW.out)
            rw [hMb] at MB HM hM ⊢
            have HMLT := hid hM.lt
            clear hM hBk hMb GMB
            replace q := q.trans (hB.mono q.size)
            clear hB
            refine hKK _ _ (RX.out.below q (by have := SV.out; omega)) ?_
            try simp only [Act.put, List.setIfInBounds_toArray, List.set_cons_zero, List.set_cons_succ]
            clear hKK K
            refine anyS_takeD (some 9) (i := 7) (v := ?_) hnd rfl rfl (by kernel_rfl) (by kernel_rfl) (by kernel_rfl) (fun _ _ _ h => h) ⟨by rfl, ?_, fun _ => rfl⟩ (RX.out.below q (by have := SV.out; omega)) ?_
            rotate_left
            · intro w' hw'; go_simp; try with_reducible rfl
            try simp only [Act.put, List.setIfInBounds_toArray, List.set_cons_zero, List.set_cons_succ]
            refine anyS_call (i := 8) (by kernel_rfl) rfl (by rfl) (fun K hKK => ?_)
            have fg := RG.out.frozen 0; have cg := RG.out.cell 0
            simp only [List.getElem?_cons_zero, List.getElem?_cons_succ] at cg
            go_simp
            have OW2 := hid (owns_setG (u := .map (some Mb)) OWK.out RG.out)
            have HM2 := hid (HM.out.store (j := 0) (u := .map (some Mb)) GL.out)
            have RG2 := hid (RG.out.set 0 (.map (some Mb)))
            replace q := q.setCell (p := ⟨G, 0, none⟩) (by show V.heap.size ≤ G; have := GZ.out; have := SV.out; omega) (.map (some Mb))
            refine hKK _ _ (RX.out.below q (by have := SV.out; omega)) ?_
            try simp only [Act.put, List.setIfInBounds_toArray, List.set_cons_zero, List.set_cons_succ]
            clear fg cg
            clear hKK K
            refine anyS_done (by kernel_rfl) ?_ _
            gi_wp2
            gi_meet
            exact ⟨_, _, _, M, rfl, rfl, ⟨GZ.out, MB.out⟩, OW2.out, HM2.out, HBK.out, RG2.out, q⟩
        · go_simp
          have RG := hid (Row.new W0 75 [.map none])
          have hA : Below W0.heap.size W0 (W0.alloc (.cells #[.map none] 75)) := (Below.refl _ _).alloc (Nat.le_refl _) _
          have GZ := hid (show X + 4 ≤ W0.heap.size by have := q.size; have := SV.out; omega)
          try replace OWK := hid (owns_belowP OWK.out hA)
          try (replace HM := hid (HM.out.below hA))
          try have GL := hid (show W0.heap.size ≠ Mb by have := HMLT.out; omega)
          replace q := q.trans (hA.mono q.size)
          refine hKK _ _ (RX.out.below q (by have := SV.out; omega)) ?_
          try simp only [Act.put, List.setIfInBounds_toArray, List.set_cons_zero, List.set_cons_succ]
          obtain ⟨G, hG⟩ : ∃ x, W0.heap.size = x := ⟨_, rfl⟩
          obtain ⟨va, hva⟩ : ∃ x, x = W0.alloc (.cells #[.map none] 75) := ⟨_, rfl⟩
          rw [← hva] at RG q hA ⊢
          try rw [← hva] at OWK
          try rw [← hva] at HM
          rw [hG] at RG GZ ⊢
          try rw [hG] at GL
          have GLT := hid (show G < va.heap.size from RG.out.lt)
          clear hva hA hG
          clear hKK K
          refine anyS_call (i := 2) (by kernel_rfl) rfl (by rfl) (fun K hKK => ?_)
          go_simp
          first | (with_reducible refine ⟨trivial, (callsIn_wide.2 (KP.out (by first | rfl | trivial) va (HK.out.below q (by have := SV.out; have := HLT.out; omega)) (HR.out.below q (by have := SV.out; have := HLT.out; omega)))).mono ?_⟩) | (with_reducible refine (callsIn_wide.2 (KP.out (by first | rfl | trivial) va (HK.out.below q (by have := SV.out; have := HLT.out; omega)) (HR.out.below q (by have := SV.out; have := HLT.out; omega)))).mono ?_)
          rintro e vk ⟨v, rfl, ow, hB⟩
          dsimp only
          try replace OWK := hid (owns_belowP OWK.out hB)
          try replace RG := hid (RG.out.below hB RG.out.lt)
          have OWK := hid (owns_base ow (show X + 4 ≤ _ by have := q.size; have := SV.out; omega))
          clear ow
          replace q := q.trans (hB.mono q.size)
          clear hB
          refine hKK _ _ (RX.out.below q (by have := SV.out; omega)) ?_
          try simp only [Act.put, List.setIfInBounds_toArray, List.set_cons_zero, List.set_cons_succ]
          clear hKK K
          refine anyS_call (i := 5) (by kernel_rfl) rfl (by rfl) (fun K hKK => ?_)
          try have GLW := hid (show G < vk.heap.size from RG.out.lt)
          go_simp
          first | (with_reducible refine ⟨trivial, (callsIn_wide.2 (BK.out (by first | rfl | trivial) vk (HBR.out.below q (by have := SV.out; have := HLT.out; omega)) (HR.out.below q (by have := SV.out; have := HLT.out; omega)))).mono ?_⟩) | (with_reducible refine (callsIn_wide.2 (BK.out (by first | rfl | trivial) vk (HBR.out.below q (by have := SV.out; have := HLT.out; omega)) (HR.out.below q (by have := SV.out; have := HLT.out; omega)))).mono ?_)
          rintro e vb ⟨M, rfl, hM, hBk, hB⟩
          dsimp only
          try replace OWK := hid (owns_belowP OWK.out hB)
          try replace RG := hid (RG.out.below hB RG.out.lt)
          have MB := hid (show X + 4 ≤ vk.heap.size + 1 by have := q.size; have := SV.out; omega)
          have GMB := hid (show ∀ g, g < vk.heap.size → g ≠ vk.heap.size + 1 from fun g h => by omega)
          have HM := hid hM; have HBK := hid hBk
          obtain ⟨Mb, hMb⟩ : ∃ x, vk.heap.size + 1 = x := ⟨_, rfl⟩
          try have GL := hid (show G ≠ Mb by rw [← hMb]; exact GMB.out G GLW.out)
          rw [hMb] at MB HM hM ⊢
          have HMLT := hid hM.lt
          clear hM hBk hMb GMB
          replace q := q.trans (hB.mono q.size)
          clear hB
          refine hKK _ _ (RX.out.below q (by have := SV.out; omega)) ?_
          try simp only [Act.put, List.setIfInBounds_toArray, List.set_cons_zero, List.set_cons_succ]
          clear hKK K
          refine anyS_takeD (some 9) (i := 7) (v := ?_) hnd rfl rfl (by kernel_rfl) (by kernel_rfl) (by kernel_rfl) (fun _ _ _ h => h) ⟨by rfl, ?_, fun _ => rfl⟩ (RX.out.below q (by have := SV.out; omega)) ?_
          rotate_left
          · intro w' hw'; go_simp; try with_reducible rfl
          try simp only [Act.put, List.setIfInBounds_toArray, List.set_cons_zero, List.set_cons_succ]
          refine anyS_call (i := 8) (by kernel_rfl) rfl (by rfl) (fun K hKK => ?_)
          have fg := RG.out.frozen 0; have cg := RG.out.cell 0
          simp only [List.getElem?_cons_zero, List.getElem?_cons_succ] at cg
          go_simp
          have OW2 := hid (owns_setG (u := .map (some Mb)) OWK.out RG.out)
          have HM2 := hid (HM.out.store (j := 0) (u := .map (some Mb)) GL.out)
          have RG2 := hid (RG.out.set 0 (.map (some Mb)))
          replace q := q.setCell (p := ⟨G, 0, none⟩) (by show V.heap.size ≤ G; have := GZ.out; have := SV.out; omega) (.map (some Mb))
          refine hKK _ _ (RX.out.below q (by have := SV.out; omega)) ?_
          try simp only [Act.put, List.setIfInBounds_toArray, List.set_cons_zero, List.set_cons_succ]
          clear fg cg
          clear hKK K
          refine anyS_done (by kernel_rfl) ?_ _
          gi_wp2
          gi_meet
          exact ⟨_, _, _, M, rfl, rfl, ⟨GZ.out, MB.out⟩, OW2.out, HM2.out, HBK.out, RG2.out, q⟩
      case rest =>
        obtain ⟨v, G, Mb, M, rfl, rfl, hGM, hO, hM, hBk, hG, q⟩ := hcut
        obtain ⟨a, cp, gK, rfl, ha, hgK, hcK⟩ := own_open hO (gth_len _ _ _ (by rw [HNK.out]; exact Nat.le_refl _)) (by have := hG.lt; omega)
        have hGJl := gth_len js ks nk (by rw [HNK.out]; exact Nat.le_refl _)
        have HGA := hid (fun j (hj : j < nk) => gth_at (js := js) (ks := ks) (k := nk) (j := j) (by rw [HNK.out]; exact Nat.le_refl _) hj)
        obtain ⟨GJ, hGJ⟩ : ∃ GJ, gth js ks nk = GJ := ⟨_, rfl⟩
        rw [hGJ] at hGJl HGA hO hcK
        have qB0 := Row.new wc 3 [.int .i64 0]
        have qI0 := Row.new (wc.alloc (.cells #[.int .i64 0] 3)) 29 [.slice a nk cp]
        simp only [World.size_alloc] at qI0
        obtain ⟨Bk, hBkz⟩ : ∃ x, wc.heap.size = x := ⟨_, rfl⟩
        obtain ⟨V1, hV1⟩ : ∃ V1, V1 = (wc.alloc (.cells #[.int .i64 0] 3)).alloc (.cells #[.slice a nk cp] 29) := ⟨_, rfl⟩
        have sV1 : V1.heap.size = Bk + 2 := by rw [hV1]; simp [hBkz]
        have bc1 : Below wc.heap.size wc V1 := by rw [hV1]; exact ((Below.refl _ wc).alloc (Nat.le_refl _) _).alloc (by simp) _
        have qB : Row V1 Bk 3 [.int .i64 0] := by rw [hV1, ← hBkz]; exact qB0.alloc _
        have qI : Row V1 (Bk + 1) 29 [.slice a nk cp] := by rw [hV1, ← hBkz]; exact qI0
        have q1 : Below V.heap.size V V1 := q.trans (bc1.mono q.size)
        have sVV := SV.out
        have szc := q.size
        have E0 : ExW X G Mb Bk [.slice (some ⟨bk, 0, none⟩) nk ck, .slice (some ⟨bb, 0, none⟩) nb cb, .int .i64 c] (.slice (some ⟨bS, 0, none⟩) nS capS) lo hi 0 false V1 := ⟨qB, RX.out.below q1 (by omega), RS.out.below q1 (by omega), RF.out.below q1 (by omega), RB.out.below q1 (by omega), hG.below bc1 hG.lt⟩
        have M1 := hM.below bc1
        have B1 : Below w.heap.size w V1 := BV.out.trans (q1.mono BV.out.size)
        have hcV : ∀ j, j < nk → V1.cell? ⟨gK, j * 2, none⟩ = some (.int .i64 (rd GJ j)) ∧ V1.cell? ⟨gK, j * 2 + 1, none⟩ = some (.int .i64 (rv GJ j)) := fun j hj =>
          ⟨(bc1.cell (p := ⟨gK, j * 2, none⟩) hgK).trans (hcK j hj).1, (bc1.cell (p := ⟨gK, j * 2 + 1, none⟩) hgK).trans (hcK j hj).2⟩
        have cB := qI.cell 0
        simp only [List.getElem?_cons_zero] at cB
        have HSL := hid (show ∀ g, g = gK ∨ g = Bk + 1 → g < V1.heap.size from fun g hg => by rcases hg with rfl | rfl <;> omega)
        have GLT := hid (show X + 3 < G ∧ X + 3 < Bk ∧ G ≠ Bk ∧ X + 3 < Mb ∧ Mb < V1.heap.size ∧ w.heap.size ≤ X from ⟨by omega, by omega, by have := hG.lt; omega, by omega, by have := hM.lt; omega, by rw [HX.out]; exact Nat.le_refl _⟩)
        have GKB := hid (show gK < Bk by omega)
        have HV1 := hid hV1; have E0 := hid E0; have M1 := hid M1; have B1 := hid B1; have HBK := hid hBk; have HBZ := hid hBkz
        have hlk1 : nk ≤ 1048576 := hlk
        have hnk0 : nk ≤ n := by have := rise_len HRK2.out (by omega); have := HNK.out; omega
        clear hGJ hO hcK qB0 qI0 hV1 bc1 qB qI q1 hG hM hBk szc sVV hBkz q hGM
        gi_wp2_with (gi_at_call 41; refine (itv_in Fence.wide _ trivial rfl _ _ _ _).mono ?_; rintro e w' ⟨rfl, rfl⟩)
        rw [← HV1.out]
        simp only [HBZ.out]
        refine wpIn_rangeFunc_ownH rfl hm (gf := 62) (lb := #[.pointer (some ⟨Bk + 1, 0, none⟩)]) rfl trivial (enters_of Try.func62 (by kernel_rfl) rfl)
          (itv_stopsN Fence.wide 7 trivial rfl (by omega) (Bk + 1) gK nk cp GJ a ha hGJl.symm hlk1 V1 (by omega) (HSL.out gK (.inl rfl)) cB hcV) KeepB.trans (keepB_b HSL.out) (Below.refl _ _) (fun _ => rfl)
          (fun pre W => ExW X G Mb Bk [.slice (some ⟨bk, 0, none⟩) nk ck, .slice (some ⟨bb, 0, none⟩) nb cb, .int .i64 c] (.slice (some ⟨bS, 0, none⟩) nS capS) lo hi (brkF ks bs pre) false W ∧ ((Below w.heap.size w W ∧ V1.heap.size ≤ W.heap.size) ∧ (RM W Mb nb M ∧ ∀ x ∈ pre, stepP z js lo hi ks bs x.1 = true)))
          (fun c' pre W => (c' = .ret ∧ (∃ t, t < nk - 1 ∧ stepP z js lo hi ks bs t = false) ∧ Row W (X + 3) 4 [.bool false]) ∧ Below w.heap.size w W)
          (OwnFrom.and (Own.from (fun s A B row hs hg hr => hs.kept hg hr) _) (OwnFrom.and (OwnFrom.and (ownFrom_below (Nat.le_refl _) B1.out.size) (fun s A B row hs hg hr => Nat.le_trans hs hg.4)) (fun s A B row hs hg hr => ⟨World.ownsMap.kept hs.1 hg (fun e => by have := (hr _ e.symm).1; have := GLT.out; omega), hs.2⟩)))
          (fun c' => OwnFrom.and (Own.from (fun s A B row hs hg hr => ⟨hs.1, hs.2.1, row_kept hs.2.2 hg hr⟩) _) (ownFrom_below (Nat.le_refl _) B1.out.size))
          ⟨E0.out, ⟨B1.out, Nat.le_refl _⟩, M1.out, fun x hx => by cases hx⟩
          (fun x a' W => ∃ g, a' = { tmps := #[.agg #[.slice (some ⟨bk, 0, none⟩) nk ck, .slice (some ⟨bb, 0, none⟩) nb cb, .int .i64 c], .slice (some ⟨bS, 0, none⟩) nS capS, .slice (some ⟨b, 0, none⟩) n cap, .agg #[.int .i64 lo, .int .i64 hi], .pointer (some ⟨X, 0, none⟩), .pointer (some ⟨X + 1, 0, none⟩), undef, .pointer (some ⟨X + 2, 0, none⟩), .pointer (some ⟨X + 3, 0, none⟩), .slice a nk cp, .pointer (some ⟨G, 0, none⟩), .pointer (some ⟨Bk, 0, none⟩), undef, .pointer (some ⟨g, 0, none⟩), undef, u15, u16, u17, u18, u19, u20, u21, u22, u23, u24, u25, u26, u27, u28, u29, u30, u31, u32, u33, u34, u35, u36, .bool false, u38, u39, u40, u41, u42, u43, .slice a nk cp, .func (.func 62) #[] #[.pointer (some ⟨Bk + 1, 0, none⟩)], .int .i64 ((x.1 : Int) + 1), .agg #[.int .i64 (rd GJ x.1), .int .i64 (rv GJ x.1), .int .i64 (rd GJ (x.1 + 1)), .int .i64 (rv GJ (x.1 + 1))], u48, u49, u50, u51, u52, u53, u54, u55, u56, u57, u58, u59, u60, u61, u62, u63, u64, u65, u66, u67, u68, u69, u70, u71, u72, u73, u74, u75, u76, u77, u78], defers := [] } ∧ Row W g 82 [.int .i64 (rd GJ x.1), .int .i64 (rv GJ x.1), .int .i64 (rd GJ (x.1 + 1)), .int .i64 (rv GJ (x.1 + 1))])
          (fun x a' => Own.from (fun s A B row hs hg hr => by obtain ⟨g, e, h⟩ := hs; exact ⟨g, e, row_kept h hg hr⟩) _) ?assign ?body ?done ?stop
        case assign =>
          intro l pre x W K hI hK
          have hzI := hI.2.1.2
          have bA := box4_bel W 82 (.int .i64 (rd GJ x.1)) (.int .i64 (rv GJ x.1)) (.int .i64 (rd GJ (x.1 + 1))) (.int .i64 (rv GJ (x.1 + 1)))
          have hAA := hK _ (W.alloc (.cells #[.int .i64 (rd GJ x.1), .int .i64 (rv GJ x.1), .int .i64 (rd GJ (x.1 + 1)), .int .i64 (rv GJ (x.1 + 1))] 82)) ((KeepsOthers.alloc W _).from _) (keepB_of bA (fun g hg => Nat.lt_of_lt_of_le (HSL.out g hg) hzI)) ⟨hI.1.keep bA, ⟨hI.2.1.1.trans (bA.mono hI.2.1.1.size), by simp; omega⟩, hI.2.2.1.below bA, hI.2.2.2⟩ ⟨W.heap.size, rfl, Row.new W _ _⟩
          clear hK
          simp only [itvA]
          gi_wp2
          exact hAA
        case body =>
          rintro l pre x a' W _ _ ⟨hE, ⟨hB5, hz5⟩, hM5, hP5⟩ ⟨g, rfl, hrow⟩ hlen
          have hx := x.2
          have o1 := riseP_out (allB_out HRK2.out x.1 (by rw [← HNK.out]; omega))
          have o2 := riseP_out (allB_out HRK2.out (x.1 + 1) (by rw [← HNK.out]; omega))
          have o3 := o2.2.2 (by omega)
          simp only [Nat.add_sub_cancel] at o3
          have hsp : stepP z js lo hi ks bs x.1 = (hasL bs (lv ks (x.1 + 1)) || fitK z js lo hi (kN ks x.1) (kN ks (x.1 + 1))) := rfl
          have HY := hid (brkF_yes (ks := ks) (bs := bs) pre x)
          have HNO := hid (brkF_no (ks := ks) (bs := bs) pre x)
          have r1 := HGA.out x.1 (by omega)
          have r2 := HGA.out (x.1 + 1) (by omega)
          obtain ⟨C, hC⟩ : ∃ C : Nat, lv ks (x.1 + 1) = (C : Int) := ⟨(lv ks (x.1 + 1)).toNat, by omega⟩
          obtain ⟨P, hPq⟩ : ∃ C : Nat, lv ks x.1 = (C : Int) := ⟨(lv ks x.1).toNat, by omega⟩
          have kc : kN ks (x.1 + 1) = C := by unfold kN; rw [hC]; omega
          have kk : kN ks x.1 = P := by unfold kN; rw [hPq]; omega
          rw [hC, kc, kk] at hsp
          rw [hC] at HY HNO
          rw [kk] at r1
          rw [kc] at r2
          rw [hC, hPq] at o3
          rw [hC] at o2
          have hPC : P < C := by omega
          have hCn : C < n := by omega
          have h6 := H64.out C (by rw [← HN.out]; exact hCn)
          obtain ⟨kl, hkl⟩ := keyRg h6.1 h6.2
          have hat := HBK.out.2 C (by rw [← HN.out]; exact hCn) kl hkl
          rw [show bs.take nb = bs from by rw [HNB.out]; exact List.take_length] at hat
          have HPX := hid (fun W s => HPS.out P C hPC hCn W s)
          obtain ⟨hv, hhv⟩ : ∃ r, hasL bs (C : Int) = r := ⟨_, rfl⟩
          obtain ⟨fv, hfv⟩ : ∃ r, fitK z js lo hi P C = r := ⟨_, rfl⟩
          rw [hhv] at hsp HY HNO hat
          rw [hfv] at hsp HPX
          have hLK := hM5.look hkl hat
          unfold rgVal at hLK
          rw [r1.1, r1.2, r2.1, r2.2] at hrow ⊢
          obtain ⟨d1, hd1⟩ : ∃ d, rd js P = d := ⟨_, rfl⟩
          obtain ⟨v1, hv1⟩ : ∃ d, rv js P = d := ⟨_, rfl⟩
          obtain ⟨d2, hd2⟩ : ∃ d, rd js C = d := ⟨_, rfl⟩
          obtain ⟨v2, hv2⟩ : ∃ d, rv js C = d := ⟨_, rfl⟩
          rw [hd1, hv1, hd2, hv2] at hrow HPX ⊢
          rw [hd2, hv2] at hLK
          have cnle := brkF_le ks bs pre
          obtain ⟨cnt, hcnt⟩ : ∃ k : Nat, brkF ks bs pre = k := ⟨_, rfl⟩
          rw [hcnt] at hE HY HNO cnle
          have i0 := hrow.cell 0; have i1 := hrow.cell 1; have i2 := hrow.cell 2; have i3 := hrow.cell 3
          have y0 := hE.1.cell 0; have f0 := hE.1.frozen 0; have y1 := hE.2.2.1.cell 0; have y2 := hE.2.2.2.1.cell 0; have y3 := hE.2.2.2.1.cell 1; have y4 := hE.2.2.2.2.2.cell 0
          simp only [List.getElem?_cons_zero, List.getElem?_cons_succ] at i0 i1 i2 i3 y0 y1 y2 y3 y4
          have wc1 : IntKind.i64.wrap ((cnt : Int) + 1) = (cnt : Int) + 1 := IntWalk.i64_in _ (by omega)
          have HE := hid hE; have HB5 := hid hB5; have HM5 := hid hM5; have HP5 := hid hP5; have HSP := hid hsp
          have SZ5 := hid (show V1.heap.size ≤ (W.setCell ⟨Bk, 0, none⟩ (.int .i64 ((cnt : Int) + 1))).heap.size from Nat.le_trans hz5 (Nat.le_of_eq (World.size_setCell _ _ _).symm))
          clear hE hB5 hM5 hP5 hsp r1 r2 hC hPq kc kk o1 o2 o3 hPC hCn h6 hkl hat hhv hfv hd1 hv1 hd2 hv2 hcnt hrow cnle
          cases hv with
          | true =>
            have HEN := hid (HE.out.count ((cnt : Int) + 1) GLT.out.2.1 GLT.out.2.2.1)
            have HMN := hid (HM5.out.store (G := Bk) (j := 0) (u := .int .i64 ((cnt : Int) + 1)) (by have := HE.out.1; have h := HM5.out; intro e; subst e; exact absurd h (rm_row this)))
            gi_wp2
            exact ⟨(KeepsOthers.setCell _ _ _).from _, (fun g hg => Below.heap_setCell W ⟨Bk, 0, none⟩ _ g (by intro e; have e' : g = Bk := e; have := GKB.out; rcases hg with h | h <;> omega)), by rw [HY.out (by first | rfl | trivial)]; exact HEN.out, ⟨HB5.out.setCell (p := ⟨Bk, 0, none⟩) (by show w.heap.size ≤ Bk; have := GLT.out; omega) _, by first | exact SZ5.out | (have := SZ5.out; omega)⟩, HMN.out, fun y hy => by
              rcases List.mem_append.1 hy with h | h
              · exact HP5.out y h
              · simp at h; subst h; rw [HSP.out]; rfl⟩
          | false =>
            cases fv with
            | true =>
              gi_wp2_with (gi_at_call 59; refine (CallsIn.inRound l (callsIn_wide.2 (HPX.out W (HS0.out.below HB5.out HS0.out.1)))).mono ?_; rintro e w6 ⟨rfl, hB6⟩)
              exact ⟨(keepsOthers_of hB6).from _, keepB_of hB6 (fun g hg => Nat.lt_of_lt_of_le (HSL.out g hg) hz5), by rw [HNO.out (by first | rfl | trivial)]; exact HE.out.keep hB6, ⟨HB5.out.trans (hB6.mono HB5.out.size), Nat.le_trans hz5 hB6.size⟩, HM5.out.below hB6, fun y hy => by
                rcases List.mem_append.1 hy with h | h
                · exact HP5.out y h
                · simp at h; subst h; rw [HSP.out]; rfl⟩
            | false =>
              gi_wp2_with (gi_at_call 59; refine (CallsIn.inRound l (callsIn_wide.2 (HPX.out W (HS0.out.below HB5.out HS0.out.1)))).mono ?_; rintro e w6 ⟨rfl, hB6⟩; have E6 := HE.out.keep hB6; have z3 := E6.2.2.2.2.1.cell 0; have zf := E6.2.2.2.2.1.frozen 0; simp only [List.getElem?_cons_zero] at z3)
              exact ⟨((keepsOthers_of hB6).trans (KeepsOthers.setCell _ _ _)).from _, ⟨rfl, ⟨x.1, x.2, by rw [HSP.out]; rfl⟩, E6.2.2.2.2.1.set 0 _⟩, (HB5.out.trans (hB6.mono HB5.out.size)).setCell (p := ⟨X + 3, 0, none⟩) (by show w.heap.size ≤ X + 3; have := GLT.out; omega) _⟩
        case done =>
          rintro D ys W hD rfl ⟨hE, ⟨hB5, hz5⟩, hM5, hP5⟩ hK
          rw [brkF_all] at hE
          have hT := T7.out (by first | rfl | trivial) (by first | rfl | trivial) HD.out (fun j hj => hP5 ⟨j, by rw [HNK.out]; exact hj⟩ (List.mem_finRange _))
          rw [← HNK.out, ← HNB.out, ← HN.out] at hT
          have bl := brkN_le ks bs (nk - 1)
          obtain ⟨cnt, hcnt⟩ : ∃ k : Nat, brkN ks bs (nk - 1) = k := ⟨_, rfl⟩
          rw [hcnt] at hE hT bl
          have y0 := hE.1.cell 0; have x0 := hE.2.1.cell 0; have x1 := hE.2.1.cell 1; have x2 := hE.2.1.cell 2; have y3 := hE.2.2.2.2.1.cell 0; have f3 := hE.2.2.2.2.1.frozen 0
          simp only [List.getElem?_cons_zero, List.getElem?_cons_succ] at y0 x0 x1 x2 y3
          obtain ⟨Mi, hMi⟩ : ∃ M, (n : Int) - (nk : Int) = M := ⟨_, rfl⟩
          obtain ⟨B2, hB2⟩ : ∃ M, 2 * (cnt : Int) = M := ⟨_, rfl⟩
          rw [hMi, hB2] at hT
          obtain ⟨S2, hS2⟩ : ∃ x, Mi + B2 = x := ⟨_, rfl⟩
          rw [hS2] at hT
          have wM : IntKind.i64.wrap ((n : Int) - (nk : Int)) = Mi := (IntWalk.i64_in _ (by omega)).trans hMi
          have wM1 : IntKind.i64.wrap Mi = Mi := IntWalk.i64_in _ (by omega)
          have wB : IntKind.i64.wrap (2 * (cnt : Int)) = B2 := (IntWalk.i64_in _ (by omega)).trans hB2
          have wS : IntKind.i64.wrap (Mi + B2) = S2 := (IntWalk.i64_in _ (by omega)).trans hS2
          have HDD := hid hD
          have hD3 : X + 3 < D := by have := GLT.out; omega
          have key : ∀ b' : Bool, ((W.setCell ⟨X + 3, 0, none⟩ (.bool b')).heap[D]? = some (.deferred (some [])) ∧ Below w.heap.size w (W.setCell ⟨X + 3, 0, none⟩ (.bool b')) ∧ ExW X G Mb Bk [.slice (some ⟨bk, 0, none⟩) nk ck, .slice (some ⟨bb, 0, none⟩) nb cb, .int .i64 c] (.slice (some ⟨bS, 0, none⟩) nS capS) lo hi cnt b' (W.setCell ⟨X + 3, 0, none⟩ (.bool b'))) := fun b' =>
            ⟨(Below.heap_setCell W ⟨X + 3, 0, none⟩ _ D (by show D ≠ X + 3; omega)).trans hK, hB5.setCell (p := ⟨X + 3, 0, none⟩) (by show w.heap.size ≤ X + 3; have := GLT.out; omega) _, hE.back b' GLT.out.2.1 GLT.out.1⟩
          have KEY := hid key
          have HT := hid hT
          clear hE hT hcnt hMi hB2 hS2 bl key hK hM5 hP5 hD3
          by_cases he : cnt = nb
          · have e1 : (((cnt : Nat) : Int) == ((nb : Nat) : Int)) = true := by simp [he]
            have hT2 := HT.out
            rw [e1, Bool.true_and] at hT2
            have HT2 := hid hT2
            clear hT2 he
            gi_wp2
            obtain ⟨hK, hB6, hE6⟩ := KEY.out _
            have k3 := row_kept hE6.2.2.2.2.1 (grownBy_putObj' _ D (.deferred none)) (fun r e => by cases e; exact ⟨_, hK, rfl⟩)
            have z3 := k3.cell 0
            simp only [List.getElem?_cons_zero] at z3
            have hz := B1.out.size
            have hDD := HDD.out
            refine ⟨by simp, .inl ⟨_, _, rfl, run_takeDeferred hK, ?_⟩⟩
            rw [HT2.out]
            exact ⟨_, by simp [results, Try.f36, go_sem, z3], rfl, hB6.trans (belowK_b (w := w) (Nat.le_refl _) _ D _ _ (by omega) hK rfl rfl)⟩
          · have e1 : (((cnt : Nat) : Int) == ((nb : Nat) : Int)) = false := by
              have : ¬ ((cnt : Nat) : Int) = ((nb : Nat) : Int) := by omega
              simpa using this
            have hT2 := HT.out
            rw [e1, Bool.false_and] at hT2
            have HT2 := hid hT2
            clear hT2 he
            gi_wp2
            obtain ⟨hK, hB6, hE6⟩ := KEY.out _
            have k3 := row_kept hE6.2.2.2.2.1 (grownBy_putObj' _ D (.deferred none)) (fun r e => by cases e; exact ⟨_, hK, rfl⟩)
            have z3 := k3.cell 0
            simp only [List.getElem?_cons_zero] at z3
            have hz := B1.out.size
            have hDD := HDD.out
            refine ⟨by simp, .inl ⟨_, _, rfl, run_takeDeferred hK, ?_⟩⟩
            rw [HT2.out]
            exact ⟨_, by simp [results, Try.f36, go_sem, z3], rfl, hB6.trans (belowK_b (w := w) (Nat.le_refl _) _ D _ _ (by omega) hK rfl rfl)⟩
        case stop =>
          rintro D c' pre W hD ⟨j, hj, rfl⟩ ⟨⟨rfl, ⟨t, ht, hq⟩, hr3⟩, hB5⟩ hK
          have hrf := T5.out t (by rw [← HNK.out]; exact ht) hq
          subst hrf
          have k3 := row_kept hr3 (grownBy_putObj' _ D (.deferred none)) (fun r e => by cases e; exact ⟨_, hK, rfl⟩)
          have z3 := k3.cell 0
          simp only [List.getElem?_cons_zero] at z3
          have hz := B1.out.size
          gi_wp2
          refine ⟨by simp, .inl ⟨_, _, rfl, run_takeDeferred hK, ?_⟩⟩
          exact ⟨.bool false, by simp [results, Try.f36, go_sem, z3], rfl, hB5.trans (belowK_b (w := w) (Nat.le_refl _) _ D _ _ (by omega) hK rfl rfl)⟩
end Go.Proofs.Ytilbpgcgjbblaaa
