/- The totals of stories: the program's. -/
import Derived.Test.YtilbpgcgjbblaaaCtS
namespace Go.Proofs.Ytilbpgcgjbblaaa
open Go.RowKit Go.Shelf Go.Maps
set_option linter.unusedVariables false
set_option linter.unusedSimpArgs false
theorem own_open2 {w : World} {base n : Nat} {v : Value} {js : List (Int × Int)} (h : w.ownsRow base 56 2 v n (tvals js)) (hl : js.length = n) (hz : 0 < w.heap.size) :
    ∃ (a : Option Addr) (cp g : Nat), v = .slice a n cp ∧ (n = 0 ∨ a = some ⟨g, 0, none⟩) ∧ (g = 0 ∨ base ≤ g) ∧ g < w.heap.size ∧ ∀ j, j < n → w.cell? ⟨g, j * 2, none⟩ = some (.int .i64 (rd js j)) ∧ w.cell? ⟨g, j * 2 + 1, none⟩ = some (.int .i64 (rv js j)) := by
  rcases h.2 with ⟨rfl, rfl⟩ | ⟨g, cap, cur, rfl, h3, h4, h5, h6, h7, h8⟩
  · exact ⟨_, _, 0, rfl, .inl rfl, .inl rfl, hz, fun j hj => by omega⟩
  · have hr : Row w g 56 (tvals js ++ cur.toList.drop (n * 2)) := by
      unfold Row
      rw [h4, ← h8, List.take_append_drop]
    exact ⟨_, _, g, rfl, .inr rfl, .inr h3, hr.lt, fun j hj => ⟨(hr.cell _).trans (tvals_get js _ j (by omega)).1, (hr.cell _).trans (tvals_get js _ j (by omega)).2⟩⟩
def ToW (X A Mb : Nat) (st : Value) (lo hi l g : Int) (W : World) : Prop :=
  Row W A 2 [.int .i64 l] ∧ Row W (A + 1) 2 [.int .i64 g] ∧ Row W (A + 2) 75 [.map (some Mb)] ∧ Row W X 27 [st] ∧ Row W (X + 1) 42 [.int .i64 lo, .int .i64 hi]
section
variable {X A Mb : Nat} {st : Value} {lo hi l g : Int} {W W' : World}
theorem ToW.kept {row : Option Nat} (h : ToW X A Mb st lo hi l g W) (hg : W.grownBy W' row) (hr : ∀ r, row = some r → ∃ o : Obj, W.heap[r]? = some o ∧ o.isCells = false) : ToW X A Mb st lo hi l g W' :=
  ⟨row_kept h.1 hg hr, row_kept h.2.1 hg hr, row_kept h.2.2.1 hg hr, row_kept h.2.2.2.1 hg hr, row_kept h.2.2.2.2 hg hr⟩
theorem ToW.keep (h : ToW X A Mb st lo hi l g W) (hb : Below W.heap.size W W') : ToW X A Mb st lo hi l g W' :=
  ⟨h.1.below hb h.1.lt, h.2.1.below hb h.2.1.lt, h.2.2.1.below hb h.2.2.1.lt, h.2.2.2.1.below hb h.2.2.2.1.lt, h.2.2.2.2.below hb h.2.2.2.2.lt⟩
theorem ToW.sum (l' g' : Int) (h : ToW X A Mb st lo hi l g W) (hx : X + 1 < A) : ToW X A Mb st lo hi l' g' ((W.setCell ⟨A, 0, none⟩ (.int .i64 l')).setCell ⟨A + 1, 0, none⟩ (.int .i64 g')) :=
  ⟨(h.1.set 0 _).other (a := ⟨A + 1, 0, none⟩) (by show A + 1 ≠ A; omega) _, (h.2.1.other (a := ⟨A, 0, none⟩) (by show A ≠ A + 1; omega) _).set 0 _, (h.2.2.1.other (a := ⟨A, 0, none⟩) (by show A ≠ A + 2; omega) _).other (a := ⟨A + 1, 0, none⟩) (by show A + 1 ≠ A + 2; omega) _, (h.2.2.2.1.other (a := ⟨A, 0, none⟩) (by show A ≠ X; omega) _).other (a := ⟨A + 1, 0, none⟩) (by show A + 1 ≠ X; omega) _, (h.2.2.2.2.other (a := ⟨A, 0, none⟩) (by show A ≠ X + 1; omega) _).other (a := ⟨A + 1, 0, none⟩) (by show A + 1 ≠ X + 1; omega) _⟩
end
attribute [local go_sem] Oper.semAt_some
set_option maxRecDepth 100000 in
set_option maxHeartbeats 4000000 in
theorem implTotal_no (bS nS capS : Nat) (zs : List Int) (hnS : nS = zs.length) (b n cap : Nat) (js : List (Int × Int)) (hn : n = js.length) (lo hi : Int) (bk nk ck bb nb cb : Nat) (ks bs : List Int) (c : Int) (hnk : nk = ks.length) (hnb : nb = bs.length) (w : World)
    (hS : Stk w bS zs) (hR : Rst w b js) (hK : Lst w bk ks) (hBr : Lst w bb bs) (hok : (okG zs js && okF lo hi) = false) :
    Calls Try.prog 20 #[.slice (some ⟨bS, 0, none⟩) nS capS, .slice (some ⟨b, 0, none⟩) n cap, .agg #[.int .i64 lo, .int .i64 hi], .agg #[.slice (some ⟨bk, 0, none⟩) nk ck, .slice (some ⟨bb, 0, none⟩) nb cb, .int .i64 c]] w (GivesB w (tup3 (totR zs js lo hi ks bs c))) := by
  have rS0 := Row.new w 27 [.slice (some ⟨bS, 0, none⟩) nS capS]
  have rF0 := Row.new (w.alloc (.cells #[.slice (some ⟨bS, 0, none⟩) nS capS] 27)) 42 [.int .i64 lo, .int .i64 hi]
  have rX0 := Row.new ((w.alloc (.cells #[.slice (some ⟨bS, 0, none⟩) nS capS] 27)).alloc (.cells #[.int .i64 lo, .int .i64 hi] 42)) 44 [.slice (some ⟨bk, 0, none⟩) nk ck, .slice (some ⟨bb, 0, none⟩) nb cb, .int .i64 c]
  simp only [World.size_alloc] at rX0 rF0
  obtain ⟨X, hX⟩ : ∃ F, w.heap.size = F := ⟨_, rfl⟩
  obtain ⟨V, hV⟩ : ∃ V, V = ((w.alloc (.cells #[.slice (some ⟨bS, 0, none⟩) nS capS] 27)).alloc (.cells #[.int .i64 lo, .int .i64 hi] 42)).alloc (.cells #[.slice (some ⟨bk, 0, none⟩) nk ck, .slice (some ⟨bb, 0, none⟩) nb cb, .int .i64 c] 44) := ⟨_, rfl⟩
  have sV : V.heap.size = X + 3 := by rw [hV]; simp [hX]
  have bV : Below w.heap.size w V := by rw [hV]; exact (((Below.refl _ w).alloc (Nat.le_refl _) _).alloc (by simp) _).alloc (by simp; omega) _
  have rS : Row V X 27 [.slice (some ⟨bS, 0, none⟩) nS capS] := by rw [hV, ← hX]; exact (rS0.alloc _).alloc _
  have rF : Row V (X + 1) 42 [.int .i64 lo, .int .i64 hi] := by rw [hV, ← hX]; exact rF0.alloc _
  have rX : Row V (X + 2) 44 [.slice (some ⟨bk, 0, none⟩) nk ck, .slice (some ⟨bb, 0, none⟩) nb cb, .int .i64 c] := by rw [hV, ← hX]; exact rX0
  have HLT := hid (show bS < V.heap.size ∧ b < V.heap.size ∧ bk < V.heap.size ∧ bb < V.heap.size from by have a1 := hS.1; have a2 := hR.1; have a3 := hK.1; have a4 := hBr.1; omega)
  have HS0 := hid hS
  have HS := hid (hS.below bV hS.1); have HR := hid (hR.below bV hR.1); have HK := hid (hK.below bV hK.1); have HBR := hid (hBr.below bV hBr.1)
  have RX := hid rX; have RF := hid rF; have RS := hid rS; have BV := hid bV; have HV := hid hV; have HX := hid hX; have SV := hid sV
  have HA := hid (implValidLog_any bS nS capS zs hnS b n cap js hn V HS.out HR.out)
  have HFF := hid (fun W => implValidFlow_any lo hi W)
  have G1 : Fence.wide.fn 25 := trivial
  have G2 : Fence.wide.fn 42 := trivial
  have G3 : Fence.wide.fn 40 := trivial
  have G4 : Fence.wide.fn 41 := trivial
  have G5 : Fence.wide.fn 43 := trivial
  have G6 : Fence.wide.fn 35 := trivial
  have G7 : Fence.wide.fn 36 := trivial
  have hm : 1 ≤ 8 := by omega
  have x0 := rS.cell 0
  simp only [List.getElem?_cons_zero, List.getElem?_cons_succ] at x0
  rw [totR_no hok]
  unfold tup3
  cases hg : okG zs js with
  | false =>
    rw [hg] at HA
    clear hS hR hK hBr rS0 rF0 rX0 rS rF rX bV hV sV hX hnk hnb hn hnS hok hg
    refine (callsIn_wide (n := 8)).1 ?_
    refine callsIn_of_wp_marks Try.func20 rfl trivial ?_ rfl
    simp only [Try.ntmps20, List.size_toArray, List.length_cons, List.length_nil, Nat.reduceAdd, Nat.reduceSub, Array.replicate_succ, Array.replicate_zero, List.push_toArray, List.append_toArray, List.nil_append, List.cons_append]
    gi_upto_region 1 with fail
    rw [← HV.out]
    try rw [HX.out]
    rw [show X + 1 + 1 = X + 2 from rfl]
    gi_wp2_with ((with_reducible refine wpListIn_skip ?_ ?_ ?_); rfl; rfl)
    with_reducible refine (callsIn_wide.2 HA.out).mono ?_
    rintro e w1 ⟨rfl, hB⟩
    have q := hB
    clear hB x0
    have QQ := hid q
    clear q
    gi_wp2_with ((with_reducible refine wpListIn_skip ?_ ?_ ?_); rfl; rfl)
    exact ⟨.tuple #[.int .i64 0, .int .i64 0, .int .i64 1], by simp [results, Try.f20, go_sem], rfl, BV.out.trans (QQ.out.mono BV.out.size)⟩
  | true =>
    have hf : okF lo hi = false := by rw [hg] at hok; simpa using hok
    rw [hg] at HA
    rw [hf] at HFF
    clear hS hR hK hBr rS0 rF0 rX0 rS rF rX bV hV sV hX hnk hnb hn hnS hok hg hf
    refine (callsIn_wide (n := 8)).1 ?_
    refine callsIn_of_wp_marks Try.func20 rfl trivial ?_ rfl
    simp only [Try.ntmps20, List.size_toArray, List.length_cons, List.length_nil, Nat.reduceAdd, Nat.reduceSub, Array.replicate_succ, Array.replicate_zero, List.push_toArray, List.append_toArray, List.nil_append, List.cons_append]
    gi_upto_region 1 with fail
    rw [← HV.out]
    try rw [HX.out]
    rw [show X + 1 + 1 = X + 2 from rfl]
    gi_wp2_with ((with_reducible refine wpListIn_skip ?_ ?_ ?_); rfl; rfl)
    with_reducible refine (callsIn_wide.2 HA.out).mono ?_
    rintro e w1 ⟨rfl, hB⟩
    have q := hB
    clear hB x0
    have rf := RF.out.below q RF.out.lt
    have f0 := rf.cell 0; have f1 := rf.cell 1
    simp only [List.getElem?_cons_zero, List.getElem?_cons_succ] at f0 f1
    clear rf
    gi_wp2_with ((with_reducible refine wpListIn_skip ?_ ?_ ?_); rfl; rfl)
    with_reducible refine (callsIn_wide.2 (HFF.out _)).mono ?_
    rintro e w2 ⟨rfl, hB⟩
    replace q := q.trans (hB.mono q.size)
    clear hB
    clear f0 f1
    have QQ := hid q
    clear q
    gi_wp2_with ((with_reducible refine wpListIn_skip ?_ ?_ ?_); rfl; rfl)
    exact ⟨.tuple #[.int .i64 0, .int .i64 0, .int .i64 1], by simp [results, Try.f20, go_sem], rfl, BV.out.trans (QQ.out.mono BV.out.size)⟩
set_option maxRecDepth 100000 in
set_option maxHeartbeats 4000000 in
theorem implTotal_false (bS nS capS : Nat) (zs : List Int) (hnS : nS = zs.length) (b n cap : Nat) (js : List (Int × Int)) (hn : n = js.length) (lo hi : Int) (bk nk ck bb nb cb : Nat) (ks bs : List Int) (c : Int) (hnk : nk = ks.length) (hnb : nb = bs.length) (w : World)
    (hS : Stk w bS zs) (hR : Rst w b js) (hK : Lst w bk ks) (hBr : Lst w bb bs) (hg : okG zs js = true) (hf : okF lo hi = true) (ht : tellB (szL zs) js lo hi ks bs c = false) :
    Calls Try.prog 20 #[.slice (some ⟨bS, 0, none⟩) nS capS, .slice (some ⟨b, 0, none⟩) n cap, .agg #[.int .i64 lo, .int .i64 hi], .agg #[.slice (some ⟨bk, 0, none⟩) nk ck, .slice (some ⟨bb, 0, none⟩) nb cb, .int .i64 c]] w (GivesB w (tup3 (totR zs js lo hi ks bs c))) := by
  have rS0 := Row.new w 27 [.slice (some ⟨bS, 0, none⟩) nS capS]
  have rF0 := Row.new (w.alloc (.cells #[.slice (some ⟨bS, 0, none⟩) nS capS] 27)) 42 [.int .i64 lo, .int .i64 hi]
  have rX0 := Row.new ((w.alloc (.cells #[.slice (some ⟨bS, 0, none⟩) nS capS] 27)).alloc (.cells #[.int .i64 lo, .int .i64 hi] 42)) 44 [.slice (some ⟨bk, 0, none⟩) nk ck, .slice (some ⟨bb, 0, none⟩) nb cb, .int .i64 c]
  simp only [World.size_alloc] at rX0 rF0
  obtain ⟨X, hX⟩ : ∃ F, w.heap.size = F := ⟨_, rfl⟩
  obtain ⟨V, hV⟩ : ∃ V, V = ((w.alloc (.cells #[.slice (some ⟨bS, 0, none⟩) nS capS] 27)).alloc (.cells #[.int .i64 lo, .int .i64 hi] 42)).alloc (.cells #[.slice (some ⟨bk, 0, none⟩) nk ck, .slice (some ⟨bb, 0, none⟩) nb cb, .int .i64 c] 44) := ⟨_, rfl⟩
  have sV : V.heap.size = X + 3 := by rw [hV]; simp [hX]
  have bV : Below w.heap.size w V := by rw [hV]; exact (((Below.refl _ w).alloc (Nat.le_refl _) _).alloc (by simp) _).alloc (by simp; omega) _
  have rS : Row V X 27 [.slice (some ⟨bS, 0, none⟩) nS capS] := by rw [hV, ← hX]; exact (rS0.alloc _).alloc _
  have rF : Row V (X + 1) 42 [.int .i64 lo, .int .i64 hi] := by rw [hV, ← hX]; exact rF0.alloc _
  have rX : Row V (X + 2) 44 [.slice (some ⟨bk, 0, none⟩) nk ck, .slice (some ⟨bb, 0, none⟩) nb cb, .int .i64 c] := by rw [hV, ← hX]; exact rX0
  have HLT := hid (show bS < V.heap.size ∧ b < V.heap.size ∧ bk < V.heap.size ∧ bb < V.heap.size from by have a1 := hS.1; have a2 := hR.1; have a3 := hK.1; have a4 := hBr.1; omega)
  have HS0 := hid hS
  have HS := hid (hS.below bV hS.1); have HR := hid (hR.below bV hR.1); have HK := hid (hK.below bV hK.1); have HBR := hid (hBr.below bV hBr.1)
  have RX := hid rX; have RF := hid rF; have RS := hid rS; have BV := hid bV; have HV := hid hV; have HX := hid hX; have SV := hid sV
  have HA := hid (implValidLog_any bS nS capS zs hnS b n cap js hn V HS.out HR.out)
  have HFF := hid (fun W => implValidFlow_any lo hi W)
  have G1 : Fence.wide.fn 25 := trivial
  have G2 : Fence.wide.fn 42 := trivial
  have G3 : Fence.wide.fn 40 := trivial
  have G4 : Fence.wide.fn 41 := trivial
  have G5 : Fence.wide.fn 43 := trivial
  have G6 : Fence.wide.fn 35 := trivial
  have G7 : Fence.wide.fn 36 := trivial
  have hm : 1 ≤ 8 := by omega
  have x0 := rS.cell 0
  simp only [List.getElem?_cons_zero, List.getElem?_cons_succ] at x0
  rw [totR_false (by rw [hg, hf]; rfl) ht]
  unfold tup3
  have HT := hid (fun W hS hR hK hBr => explains_any bS nS capS zs hnS b n cap js hn lo hi bk nk ck bb nb cb ks bs c hnk hnb W hS hR hK hBr hg hf)
  rw [ht] at HT
  rw [hg] at HA
  rw [hf] at HFF
  clear hS hR hK hBr rS0 rF0 rX0 rS rF rX bV hV sV hX hnk hnb hn hnS hg hf ht
  refine (callsIn_wide (n := 8)).1 ?_
  refine callsIn_of_wp_marks Try.func20 rfl trivial ?_ rfl
  simp only [Try.ntmps20, List.size_toArray, List.length_cons, List.length_nil, Nat.reduceAdd, Nat.reduceSub, Array.replicate_succ, Array.replicate_zero, List.push_toArray, List.append_toArray, List.nil_append, List.cons_append]
  gi_upto_region 1 with fail
  rw [← HV.out]
  try rw [HX.out]
  rw [show X + 1 + 1 = X + 2 from rfl]
  gi_wp2_with ((with_reducible refine wpListIn_skip ?_ ?_ ?_); rfl; rfl)
  with_reducible refine (callsIn_wide.2 HA.out).mono ?_
  rintro e w1 ⟨rfl, hB⟩
  have q := hB
  clear hB x0
  have rf := RF.out.below q RF.out.lt
  have f0 := rf.cell 0; have f1 := rf.cell 1
  simp only [List.getElem?_cons_zero, List.getElem?_cons_succ] at f0 f1
  clear rf
  gi_wp2_with ((with_reducible refine wpListIn_skip ?_ ?_ ?_); rfl; rfl)
  with_reducible refine (callsIn_wide.2 (HFF.out _)).mono ?_
  rintro e w2 ⟨rfl, hB⟩
  replace q := q.trans (hB.mono q.size)
  clear hB
  clear f0 f1
  have rf := RF.out.below q RF.out.lt
  have f0 := rf.cell 0; have f1 := rf.cell 1
  have rs := RS.out.below q RS.out.lt
  have s0 := rs.cell 0
  have rx := RX.out.below q RX.out.lt
  have x0 := rx.cell 0; have x1 := rx.cell 1; have x2 := rx.cell 2
  simp only [List.getElem?_cons_zero, List.getElem?_cons_succ] at f0 f1 s0 x0 x1 x2
  clear rf rs rx
  gi_wp2_with ((with_reducible refine wpListIn_skip ?_ ?_ ?_); rfl; rfl)
  with_reducible refine (callsIn_wide.2 (HT.out w2 (HS.out.below q HLT.out.1) (HR.out.below q HLT.out.2.1) (HK.out.below q HLT.out.2.2.1) (HBR.out.below q HLT.out.2.2.2))).mono ?_
  rintro e w3 ⟨rfl, hB⟩
  replace q := q.trans (hB.mono q.size)
  clear hB
  clear f0 f1 s0 x0 x1 x2
  have QQ := hid q
  clear q
  gi_wp2_with ((with_reducible refine wpListIn_skip ?_ ?_ ?_); rfl; rfl)
  exact ⟨.tuple #[.int .i64 0, .int .i64 0, .int .i64 4], by simp [results, Try.f20, go_sem], rfl, BV.out.trans (QQ.out.mono BV.out.size)⟩
set_option maxRecDepth 100000 in
set_option maxHeartbeats 4000000 in
theorem implTotal_yes (bS nS capS : Nat) (zs : List Int) (hnS : nS = zs.length) (b n cap : Nat) (js : List (Int × Int)) (hn : n = js.length) (lo hi : Int) (bk nk ck bb nb cb : Nat) (ks bs : List Int) (c : Int) (hnk : nk = ks.length) (hnb : nb = bs.length) (w : World)
    (hS : Stk w bS zs) (hR : Rst w b js) (hK : Lst w bk ks) (hBr : Lst w bb bs) (hg : okG zs js = true) (hf : okF lo hi = true) (ht : tellB (szL zs) js lo hi ks bs c = true) :
    Calls Try.prog 20 #[.slice (some ⟨bS, 0, none⟩) nS capS, .slice (some ⟨b, 0, none⟩) n cap, .agg #[.int .i64 lo, .int .i64 hi], .agg #[.slice (some ⟨bk, 0, none⟩) nk ck, .slice (some ⟨bb, 0, none⟩) nb cb, .int .i64 c]] w (GivesB w (tup3 (totR zs js lo hi ks bs c))) := by
  have rS0 := Row.new w 27 [.slice (some ⟨bS, 0, none⟩) nS capS]
  have rF0 := Row.new (w.alloc (.cells #[.slice (some ⟨bS, 0, none⟩) nS capS] 27)) 42 [.int .i64 lo, .int .i64 hi]
  have rX0 := Row.new ((w.alloc (.cells #[.slice (some ⟨bS, 0, none⟩) nS capS] 27)).alloc (.cells #[.int .i64 lo, .int .i64 hi] 42)) 44 [.slice (some ⟨bk, 0, none⟩) nk ck, .slice (some ⟨bb, 0, none⟩) nb cb, .int .i64 c]
  simp only [World.size_alloc] at rX0 rF0
  obtain ⟨X, hX⟩ : ∃ F, w.heap.size = F := ⟨_, rfl⟩
  obtain ⟨V, hV⟩ : ∃ V, V = ((w.alloc (.cells #[.slice (some ⟨bS, 0, none⟩) nS capS] 27)).alloc (.cells #[.int .i64 lo, .int .i64 hi] 42)).alloc (.cells #[.slice (some ⟨bk, 0, none⟩) nk ck, .slice (some ⟨bb, 0, none⟩) nb cb, .int .i64 c] 44) := ⟨_, rfl⟩
  have sV : V.heap.size = X + 3 := by rw [hV]; simp [hX]
  have bV : Below w.heap.size w V := by rw [hV]; exact (((Below.refl _ w).alloc (Nat.le_refl _) _).alloc (by simp) _).alloc (by simp; omega) _
  have rS : Row V X 27 [.slice (some ⟨bS, 0, none⟩) nS capS] := by rw [hV, ← hX]; exact (rS0.alloc _).alloc _
  have rF : Row V (X + 1) 42 [.int .i64 lo, .int .i64 hi] := by rw [hV, ← hX]; exact rF0.alloc _
  have rX : Row V (X + 2) 44 [.slice (some ⟨bk, 0, none⟩) nk ck, .slice (some ⟨bb, 0, none⟩) nb cb, .int .i64 c] := by rw [hV, ← hX]; exact rX0
  have HLT := hid (show bS < V.heap.size ∧ b < V.heap.size ∧ bk < V.heap.size ∧ bb < V.heap.size from by have a1 := hS.1; have a2 := hR.1; have a3 := hK.1; have a4 := hBr.1; omega)
  have HS0 := hid hS
  have HS := hid (hS.below bV hS.1); have HR := hid (hR.below bV hR.1); have HK := hid (hK.below bV hK.1); have HBR := hid (hBr.below bV hBr.1)
  have RX := hid rX; have RF := hid rF; have RS := hid rS; have BV := hid bV; have HV := hid hV; have HX := hid hX; have SV := hid sV
  have HA := hid (implValidLog_any bS nS capS zs hnS b n cap js hn V HS.out HR.out)
  have HFF := hid (fun W => implValidFlow_any lo hi W)
  have G1 : Fence.wide.fn 25 := trivial
  have G2 : Fence.wide.fn 42 := trivial
  have G3 : Fence.wide.fn 40 := trivial
  have G4 : Fence.wide.fn 41 := trivial
  have G5 : Fence.wide.fn 43 := trivial
  have G6 : Fence.wide.fn 35 := trivial
  have G7 : Fence.wide.fn 36 := trivial
  have hm : 1 ≤ 8 := by omega
  have x0 := rS.cell 0
  simp only [List.getElem?_cons_zero, List.getElem?_cons_succ] at x0
  rw [totR_yes (by rw [hg, hf]; rfl) ht]
  unfold tup3
  have HT := hid (fun W hS hR hK hBr => explains_any bS nS capS zs hnS b n cap js hn lo hi bk nk ck bb nb cb ks bs c hnk hnb W hS hR hK hBr hg hf)
  rw [ht] at HT
  rw [hg] at HA
  rw [hf] at HFF
  obtain ⟨h1, h2, h5⟩ := tell_out ht
  obtain ⟨gv, g40, g1, g2⟩ := okG_out hg
  obtain ⟨fl1, fl2, fl3⟩ := okF_out hf
  have z1 := (okL_out gv).2.2.2
  have n40 : n ≤ 40 := by omega
  have nk40 : nk ≤ n := by have := rise_len h1 (by omega); omega
  have BD := hid (fun j hj => dlo_bd hg hf ht j hj)
  have hmono : ∀ i j, i < js.length → j < js.length → rd js i = rd js j → i = j := fun i j a1 a2 e => by
    rcases Nat.lt_trichotomy i j with q | q | q
    · have := (log_two hg q a2).2; omega
    · exact q
    · have := (log_two hg q a1).2; omega
  have h64 : ∀ i, i < js.length → I64 (rd js i) ∧ I64 (rv js i) := fun i h => by
    have := okRd_out (g1 i (by omega))
    unfold I64; omega
  have KP := hid (fun W (a1 : Lst W bk ks) (a2 : Rst W b js) => kept_any bk nk ck bb nb cb ks c hnk b n cap js hn n40 (by rw [hn]; exact h1) W a1 a2)
  have BK := hid (fun W (a1 : Lst W bb bs) (a2 : Rst W b js) => broken_any bk nk ck bb nb cb bs c hnb b n cap js hn n40 (by rw [hn]; exact h2) hmono h64 W a1 a2)
  have HCN := hid (fun (P C : Nat) (hPC : P < C) (hC : C < n) W (s : Stk W bS zs) => show Calls Try.prog 43 #[.slice (some ⟨bS, 0, none⟩) nS capS, .agg #[.int .i64 (rd js P), .int .i64 (rv js P), .int .i64 (rd js C), .int .i64 (rv js C)], .agg #[.int .i64 lo, .int .i64 hi]] W (GivesB W (.tuple #[.int .i64 (lstI (szL zs) (rv js C - rv js P) (lo * (rd js C - rd js P))), .int .i64 (gstI (szL zs) (rv js C - rv js P) (hi * (rd js C - rd js P)))])) from by
    have tw := log_two hg hPC (by rw [← hn]; exact hC)
    exact counts_any bS nS capS zs hnS gv (rd js P) (rv js P) (rd js C) (rv js C) lo hi tw.1 (by omega) (by omega) (by omega) W s)
  have HNK := hid hnk; have HNB := hid hnb; have HN := hid hn; have HR1 := hid h1; have H64 := hid h64
  rw [← hnk]
  obtain ⟨z, hz⟩ : ∃ z, szL zs = z := ⟨_, rfl⟩
  rw [hz] at BD HCN ⊢
  clear hS hR hK hBr rS0 rF0 rX0 rS rF rX bV hV sV hX hnk hnb hn hnS hg hf ht h1 h2 h5 gv g40 g1 g2 fl1 fl2 fl3 z1 hz hmono h64
  refine (callsIn_wide (n := 8)).1 ?_
  refine callsIn_of_wp_marks Try.func20 rfl trivial ?_ rfl
  simp only [Try.ntmps20, List.size_toArray, List.length_cons, List.length_nil, Nat.reduceAdd, Nat.reduceSub, Array.replicate_succ, Array.replicate_zero, List.push_toArray, List.append_toArray, List.nil_append, List.cons_append]
  gi_upto_region 1 with fail
  rw [← HV.out]
  try rw [HX.out]
  rw [show X + 1 + 1 = X + 2 from rfl]
  gi_wp2_with ((with_reducible refine wpListIn_skip ?_ ?_ ?_); rfl; rfl)
  with_reducible refine (callsIn_wide.2 HA.out).mono ?_
  rintro e w1 ⟨rfl, hB⟩
  have q := hB
  clear hB x0
  have rf := RF.out.below q RF.out.lt
  have f0 := rf.cell 0; have f1 := rf.cell 1
  simp only [List.getElem?_cons_zero, List.getElem?_cons_succ] at f0 f1
  clear rf
  gi_wp2_with ((with_reducible refine wpListIn_skip ?_ ?_ ?_); rfl; rfl)
  with_reducible refine (callsIn_wide.2 (HFF.out _)).mono ?_
  rintro e w2 ⟨rfl, hB⟩
  replace q := q.trans (hB.mono q.size)
  clear hB
  clear f0 f1
  have rf := RF.out.below q RF.out.lt
  have f0 := rf.cell 0; have f1 := rf.cell 1
  have rs := RS.out.below q RS.out.lt
  have s0 := rs.cell 0
  have rx := RX.out.below q RX.out.lt
  have x0 := rx.cell 0; have x1 := rx.cell 1; have x2 := rx.cell 2
  simp only [List.getElem?_cons_zero, List.getElem?_cons_succ] at f0 f1 s0 x0 x1 x2
  clear rf rs rx
  gi_wp2_with ((with_reducible refine wpListIn_skip ?_ ?_ ?_); rfl; rfl)
  with_reducible refine (callsIn_wide.2 (HT.out w2 (HS.out.below q HLT.out.1) (HR.out.below q HLT.out.2.1) (HK.out.below q HLT.out.2.2.1) (HBR.out.below q HLT.out.2.2.2))).mono ?_
  rintro e w3 ⟨rfl, hB⟩
  replace q := q.trans (hB.mono q.size)
  clear hB
  clear f0 f1 s0 x0 x1 x2
  have rx := RX.out.below q RX.out.lt
  have x0 := rx.cell 0; have x1 := rx.cell 1; have x2 := rx.cell 2
  simp only [List.getElem?_cons_zero, List.getElem?_cons_succ] at x0 x1 x2
  clear rx
  gi_wp2_with ((with_reducible refine wpListIn_skip ?_ ?_ ?_); rfl; rfl)
  with_reducible refine (callsIn_wide.2 (BK.out w3 (HBR.out.below q HLT.out.2.2.2) (HR.out.below q HLT.out.2.1))).mono ?_
  rintro e w4 ⟨M, rfl, hM, hBk, hB⟩
  have q4 := q.trans (hB.mono q.size)
  obtain ⟨Mb, hMb⟩ : ∃ x, w3.heap.size + 1 = x := ⟨_, rfl⟩
  have hMb3 : X + 3 < Mb := by have := q.size; have := SV.out; omega
  rw [hMb] at hM ⊢
  have r11 := Row.new w4 2 [.int .i64 0]
  have r12 := Row.new (w4.alloc (.cells #[.int .i64 0] 2)) 2 [.int .i64 0]
  have r13 := Row.new ((w4.alloc (.cells #[.int .i64 0] 2)).alloc (.cells #[.int .i64 0] 2)) 75 [.map (some Mb)]
  simp only [World.size_alloc] at r12 r13
  obtain ⟨A, hA⟩ : ∃ x, w4.heap.size = x := ⟨_, rfl⟩
  obtain ⟨V3, hV3⟩ : ∃ x, x = ((w4.alloc (.cells #[.int .i64 0] 2)).alloc (.cells #[.int .i64 0] 2)).alloc (.cells #[.map (some Mb)] 75) := ⟨_, rfl⟩
  have b43 : Below w4.heap.size w4 V3 := by rw [hV3]; exact (((Below.refl _ w4).alloc (Nat.le_refl _) _).alloc (by simp) _).alloc (by simp; omega) _
  have hA3 : Mb < A := by have := hM.lt; omega
  have sV3 : V3.heap.size = A + 3 := by rw [hV3]; simp [hA]
  have q3 := q4.trans (b43.mono q4.size)
  have T3 : ToW X A Mb (.slice (some ⟨bS, 0, none⟩) nS capS) lo hi 0 0 V3 := ⟨by rw [hV3, ← hA]; exact (r11.alloc _).alloc _, by rw [hV3, ← hA]; exact r12.alloc _, by rw [hV3, ← hA]; exact r13, RS.out.below q3 RS.out.lt, RF.out.below q3 RF.out.lt⟩
  have M3 := hM.below b43
  have HV3 := hid hV3; have HA3 := hid (And.intro hMb3 hA3); have HAA := hid hA; have T3 := hid T3; have M3 := hid M3; have HBK := hid hBk; have Q3 := hid q3; have SV3 := hid sV3
  clear q hB q4 hM hBk r11 r12 r13 hV3 b43 q3 hMb hA sV3 x0 x1 x2 hMb3 hA3
  gi_upto_region 6 with ((with_reducible refine wpListIn_skip ?_ ?_ ?_); rfl; rfl)
  rw [← HV3.out]
  try rw [HAA.out]
  rw [show A + 1 + 1 = A + 2 from rfl]
  have q := Q3.out
  have rx := RX.out.below q RX.out.lt
  have x0 := rx.cell 0; have x1 := rx.cell 1; have x2 := rx.cell 2
  simp only [List.getElem?_cons_zero, List.getElem?_cons_succ] at x0 x1 x2
  clear rx
  have HKP := hid (KP.out V3 (HK.out.below q HLT.out.2.2.1) (HR.out.below q HLT.out.2.1))
  clear q
  gi_wp2_with ((with_reducible refine wpListIn_skip ?_ ?_ ?_); rfl; rfl)
  with_reducible refine (callsIn_wide.2 HKP.out).mono ?_
  rintro e w5 ⟨v, rfl, hO, hB⟩
  have T5 := T3.out.keep hB
  have M5 := M3.out.below hB
  have q5 := Q3.out.trans (hB.mono Q3.out.size)
  have hGJl := gth_len js ks nk (by rw [HNK.out]; exact Nat.le_refl _)
  have HGA := hid (fun j (hj : j < nk) => gth_at (js := js) (ks := ks) (k := nk) (j := j) (by rw [HNK.out]; exact Nat.le_refl _) hj)
  obtain ⟨GJ, hGJ⟩ : ∃ GJ, gth js ks nk = GJ := ⟨_, rfl⟩
  rw [hGJ] at hGJl HGA hO
  obtain ⟨a, cp, gK, rfl, ha, hgb, hgK, hcK⟩ := own_open2 hO hGJl (by have := q5.size; have := SV.out; omega)
  have qI0 := Row.new w5 29 [.slice a nk cp]
  obtain ⟨It, hIt⟩ : ∃ x, w5.heap.size = x := ⟨_, rfl⟩
  obtain ⟨V1, hV1⟩ : ∃ V1, V1 = w5.alloc (.cells #[.slice a nk cp] 29) := ⟨_, rfl⟩
  have sV1 : V1.heap.size = It + 1 := by rw [hV1]; simp [hIt]
  have bc1 : Below w5.heap.size w5 V1 := by rw [hV1]; exact (Below.refl _ w5).alloc (Nat.le_refl _) _
  have qI : Row V1 It 29 [.slice a nk cp] := by rw [hV1, ← hIt]; exact qI0
  have q1 : Below V.heap.size V V1 := q5.trans (bc1.mono q5.size)
  have T1 := T5.keep bc1
  have M1 := M5.below bc1
  have B1 : Below w.heap.size w V1 := BV.out.trans (q1.mono BV.out.size)
  have hcV : ∀ j, j < nk → V1.cell? ⟨gK, j * 2, none⟩ = some (.int .i64 (rd GJ j)) ∧ V1.cell? ⟨gK, j * 2 + 1, none⟩ = some (.int .i64 (rv GJ j)) := fun j hj =>
    ⟨(bc1.cell (p := ⟨gK, j * 2, none⟩) hgK).trans (hcK j hj).1, (bc1.cell (p := ⟨gK, j * 2 + 1, none⟩) hgK).trans (hcK j hj).2⟩
  have cB := qI.cell 0
  simp only [List.getElem?_cons_zero] at cB
  have HSL := hid (show ∀ g, g = gK ∨ g = It → g < V1.heap.size from fun g hg => by rcases hg with rfl | rfl <;> omega)
  have hit : A + 3 ≤ It := by have := hB.size; have := SV3.out; omega
  have GKB := hid (show gK ≠ A ∧ gK ≠ A + 1 by have := SV3.out; have := HA3.out; omega)
  have GLT := hid (show X + 3 < A ∧ A + 3 ≤ It ∧ Mb < A ∧ Mb < V1.heap.size ∧ w.heap.size ≤ X from ⟨by have := HA3.out; omega, hit, HA3.out.2, by have := HA3.out; omega, by rw [HX.out]; exact Nat.le_refl _⟩)
  have HV1 := hid hV1; have T1 := hid T1; have M1 := hid M1; have B1 := hid B1; have HIT := hid hIt
  have hlk1 : nk ≤ 1048576 := by omega
  clear hGJ hO hcK qI0 hV1 bc1 qI q1 hB T5 M5 q5 hIt hit x0 x1 x2
  gi_wp2_with ((with_reducible refine wpListIn_skip ?_ ?_ ?_); rfl; rfl)
  refine (itv_in Fence.wide _ trivial rfl _ _ _ _).mono ?_
  rintro e w' ⟨rfl, rfl⟩
  gi_wp2_with ((with_reducible refine wpListIn_skip ?_ ?_ ?_); rfl; rfl)
  rw [← HV1.out]
  try simp only [HIT.out]
  refine wpIn_rangeFunc_ownH rfl hm (gf := 62) (lb := #[.pointer (some ⟨It, 0, none⟩)]) rfl trivial (enters_of Try.func62 (by kernel_rfl) rfl)
    (itv_stopsN Fence.wide 7 trivial rfl (by omega) It gK nk cp GJ a ha hGJl.symm hlk1 V1 (by omega) (HSL.out gK (.inl rfl)) cB hcV) KeepB.trans (keepB_b HSL.out) (Below.refl _ _) (fun _ => rfl)
    (fun pre W => ToW X A Mb (.slice (some ⟨bS, 0, none⟩) nS capS) lo hi (sumF (dlo z js lo ks bs) pre) (sumF (dhi z js hi ks bs) pre) W ∧ ((Below w.heap.size w W ∧ V1.heap.size ≤ W.heap.size) ∧ RM W Mb nb M))
    (fun _ _ _ => False)
    (OwnFrom.and (Own.from (fun s A' B row hs hg hr => hs.kept hg hr) _) (OwnFrom.and (OwnFrom.and (ownFrom_below (Nat.le_refl _) B1.out.size) (fun s A' B row hs hg hr => Nat.le_trans hs hg.4)) (fun s A' B row hs hg hr => World.ownsMap.kept hs hg (fun e => by have := (hr _ e.symm).1; have := GLT.out; omega))))
    (fun _ _ _ _ _ hs _ _ => hs)
    ⟨T1.out, ⟨B1.out, Nat.le_refl _⟩, M1.out⟩
    (fun x a' W => ∃ g, a' = { tmps := #[.slice (some ⟨bS, 0, none⟩) nS capS, .slice (some ⟨b, 0, none⟩) n cap, .agg #[.int .i64 lo, .int .i64 hi], .agg #[.slice (some ⟨bk, 0, none⟩) nk ck, .slice (some ⟨bb, 0, none⟩) nb cb, .int .i64 c], .pointer (some ⟨X, 0, none⟩), undef, .pointer (some ⟨X + 1, 0, none⟩), .pointer (some ⟨X + 2, 0, none⟩), .int .i64 0, .int .i64 0, .int .i64 0, .pointer (some ⟨A, 0, none⟩), .pointer (some ⟨A + 1, 0, none⟩), .pointer (some ⟨A + 2, 0, none⟩), undef, .pointer (some ⟨g, 0, none⟩), undef, undef, .slice (some ⟨bS, 0, none⟩) nS capS, .slice (some ⟨b, 0, none⟩) n cap, .bool true, .bool false, .bool false, .agg #[.int .i64 lo, .int .i64 hi], .bool true, .bool false, .bool false, .agg #[.slice (some ⟨bk, 0, none⟩) nk ck, .slice (some ⟨bb, 0, none⟩) nb cb, .int .i64 c], .slice (some ⟨bS, 0, none⟩) nS capS, .slice (some ⟨b, 0, none⟩) n cap, .agg #[.int .i64 lo, .int .i64 hi], .bool true, .bool false, .agg #[.slice (some ⟨bk, 0, none⟩) nk ck, .slice (some ⟨bb, 0, none⟩) nb cb, .int .i64 c], .slice (some ⟨b, 0, none⟩) n cap, .map (some Mb), .agg #[.slice (some ⟨bk, 0, none⟩) nk ck, .slice (some ⟨bb, 0, none⟩) nb cb, .int .i64 c], .slice (some ⟨b, 0, none⟩) n cap, .slice a nk cp, .func (.func 62) #[] #[.pointer (some ⟨It, 0, none⟩)], .int .i64 ((x.1 : Int) + 1), .agg #[.int .i64 (rd GJ x.1), .int .i64 (rv GJ x.1), .int .i64 (rd GJ (x.1 + 1)), .int .i64 (rv GJ (x.1 + 1))], undef, undef, undef, undef, undef, undef, undef, undef, undef, undef, undef, undef, undef, undef, undef, undef, undef, undef, undef, undef], defers := [] } ∧ Row W g 82 [.int .i64 (rd GJ x.1), .int .i64 (rv GJ x.1), .int .i64 (rd GJ (x.1 + 1)), .int .i64 (rv GJ (x.1 + 1))])
    (fun x a' => Own.from (fun s A' B row hs hg hr => by obtain ⟨g, e, h⟩ := hs; exact ⟨g, e, row_kept h hg hr⟩) _) ?assign ?body ?done ?stop
  case assign =>
    intro l pre x W K hI hK
    have hzI := hI.2.1.2
    have bA := box4_bel W 82 (.int .i64 (rd GJ x.1)) (.int .i64 (rv GJ x.1)) (.int .i64 (rd GJ (x.1 + 1))) (.int .i64 (rv GJ (x.1 + 1)))
    have hAA := hK _ (W.alloc (.cells #[.int .i64 (rd GJ x.1), .int .i64 (rv GJ x.1), .int .i64 (rd GJ (x.1 + 1)), .int .i64 (rv GJ (x.1 + 1))] 82)) ((KeepsOthers.alloc W _).from _) (keepB_of bA (fun g hg => Nat.lt_of_lt_of_le (HSL.out g hg) hzI)) ⟨hI.1.keep bA, ⟨hI.2.1.1.trans (bA.mono hI.2.1.1.size), by simp; omega⟩, hI.2.2.below bA⟩ ⟨W.heap.size, rfl, Row.new W _ _⟩
    clear hK
    simp only [itvA]
    gi_wp2
    exact hAA
  case body =>
    rintro l pre x a' W _ _ ⟨hE, ⟨hB5, hz5⟩, hM5⟩ ⟨g, rfl, hrow⟩ hlen
    have hx := x.2
    have o1 := riseP_out (allB_out HR1.out x.1 (by rw [← HNK.out]; omega))
    have o2 := riseP_out (allB_out HR1.out (x.1 + 1) (by rw [← HNK.out]; omega))
    have o3 := o2.2.2 (by omega)
    simp only [Nat.add_sub_cancel] at o3
    have b1 := sumF_bd (f := dlo z js lo ks bs) (m := nk - 1) (fun j hj => (BD.out j (by rw [← HNK.out]; exact hj)).1) pre
    have b2 := sumF_bd (f := dhi z js hi ks bs) (m := nk - 1) (fun j hj => (BD.out j (by rw [← HNK.out]; exact hj)).2) pre
    have b3 := BD.out x.1 (by rw [← HNK.out]; omega)
    have s1 := sumF_snoc (dlo z js lo ks bs) pre x
    have s2 := sumF_snoc (dhi z js hi ks bs) pre x
    have d1 : dlo z js lo ks bs x.1 = if hasL bs (lv ks (x.1 + 1)) then 0 else lstI z (rv js (kN ks (x.1 + 1)) - rv js (kN ks x.1)) (lo * (rd js (kN ks (x.1 + 1)) - rd js (kN ks x.1))) := rfl
    have d2 : dhi z js hi ks bs x.1 = if hasL bs (lv ks (x.1 + 1)) then 0 else gstI z (rv js (kN ks (x.1 + 1)) - rv js (kN ks x.1)) (hi * (rd js (kN ks (x.1 + 1)) - rd js (kN ks x.1))) := rfl
    have r1 := HGA.out x.1 (by omega)
    have r2 := HGA.out (x.1 + 1) (by omega)
    obtain ⟨C, hC⟩ : ∃ C : Nat, lv ks (x.1 + 1) = (C : Int) := ⟨(lv ks (x.1 + 1)).toNat, by omega⟩
    obtain ⟨P, hPq⟩ : ∃ C : Nat, lv ks x.1 = (C : Int) := ⟨(lv ks x.1).toNat, by omega⟩
    have kc : kN ks (x.1 + 1) = C := by unfold kN; rw [hC]; omega
    have kk : kN ks x.1 = P := by unfold kN; rw [hPq]; omega
    rw [hC, kc, kk] at d1 d2
    rw [kk] at r1
    rw [kc] at r2
    rw [hC, hPq] at o3
    rw [hC] at o2
    have hPC : P < C := by omega
    have hCn : C < n := by have := HN.out; omega
    have h6 := H64.out C (by rw [← HN.out]; exact hCn)
    obtain ⟨kl, hkl⟩ := keyRg h6.1 h6.2
    have hat := HBK.out.2 C (by rw [← HN.out]; exact hCn) kl hkl
    rw [show bs.take nb = bs from by rw [HNB.out]; exact List.take_length] at hat
    have HPX := hid (fun W s => HCN.out P C hPC hCn W s)
    obtain ⟨hv, hhv⟩ : ∃ r, hasL bs (C : Int) = r := ⟨_, rfl⟩
    rw [hhv] at d1 d2 hat
    have hLK := hM5.look hkl hat
    unfold rgVal at hLK
    rw [r1.1, r1.2, r2.1, r2.2] at hrow ⊢
    obtain ⟨TL', hTL⟩ : ∃ y, sumF (dlo z js lo ks bs) pre = y := ⟨_, rfl⟩
    obtain ⟨TH', hTH⟩ : ∃ y, sumF (dhi z js hi ks bs) pre = y := ⟨_, rfl⟩
    rw [hTL] at b1 s1 hE
    rw [hTH] at b2 s2 hE
    have hlen40 : pre.length ≤ 40 := by omega
    have HS1 := hid s1; have HS2 := hid s2; have HD1 := hid d1; have HD2 := hid d2
    have hbb : (0 ≤ TL' ∧ TL' ≤ 80000000000000) ∧ (0 ≤ TH' ∧ TH' ≤ 80000000000000) := by omega
    clear s1 s2 d1 d2 b1 b2 hTL hTH
    obtain ⟨dd1, hd1⟩ : ∃ d, rd js P = d := ⟨_, rfl⟩
    obtain ⟨v1, hv1⟩ : ∃ d, rv js P = d := ⟨_, rfl⟩
    obtain ⟨dd2, hd2⟩ : ∃ d, rd js C = d := ⟨_, rfl⟩
    obtain ⟨v2, hv2⟩ : ∃ d, rv js C = d := ⟨_, rfl⟩
    rw [hd1, hv1, hd2, hv2] at hrow HPX HD1 HD2 ⊢
    rw [hd2, hv2] at hLK
    have i0 := hrow.cell 0; have i1 := hrow.cell 1; have i2 := hrow.cell 2; have i3 := hrow.cell 3
    have y4 := hE.2.2.1.cell 0; have y1 := hE.2.2.2.1.cell 0; have y2 := hE.2.2.2.2.cell 0; have y3 := hE.2.2.2.2.cell 1
    simp only [List.getElem?_cons_zero, List.getElem?_cons_succ] at i0 i1 i2 i3 y1 y2 y3 y4
    have HE := hid hE; have HB5 := hid hB5; have HM5 := hid hM5; have B3 := hid b3
    clear hE hB5 hM5 r1 r2 hC hPq kc kk o1 o2 o3 hPC hCn h6 hkl hat hhv hd1 hv1 hd2 hv2 hrow b3
    cases hv with
    | true =>
      have e1 : sumF (dlo z js lo ks bs) (pre ++ [x]) = TL' := by rw [HS1.out, HD1.out]; simp
      have e2 : sumF (dhi z js hi ks bs) (pre ++ [x]) = TH' := by rw [HS2.out, HD2.out]; simp
      have E1 := hid e1; have E2 := hid e2
      clear e1 e2
      gi_wp2
      exact ⟨(KeepsOthers.refl _).from _, KeepB.refl _ _, by rw [E1.out, E2.out]; exact HE.out, ⟨HB5.out, by first | exact hz5 | omega⟩, HM5.out⟩
    | false =>
      have hd1 := HD1.out; have hd2 := HD2.out
      rw [if_neg (by simp)] at hd1 hd2
      have b3 := B3.out
      rw [hd1, hd2] at b3
      obtain ⟨Lx, hLx⟩ : ∃ y, lstI z (v2 - v1) (lo * (dd2 - dd1)) = y := ⟨_, rfl⟩
      obtain ⟨Gx, hGx⟩ : ∃ y, gstI z (v2 - v1) (hi * (dd2 - dd1)) = y := ⟨_, rfl⟩
      rw [hLx] at b3 HPX hd1
      rw [hGx] at b3 HPX hd2
      have E1 := hid (show sumF (dlo z js lo ks bs) (pre ++ [x]) = TL' + Lx by rw [HS1.out, hd1])
      have E2 := hid (show sumF (dhi z js hi ks bs) (pre ++ [x]) = TH' + Gx by rw [HS2.out, hd2])
      have wL : IntKind.i64.wrap (TL' + Lx) = TL' + Lx := IntWalk.i64_in _ (by omega)
      have wG : IntKind.i64.wrap (TH' + Gx) = TH' + Gx := IntWalk.i64_in _ (by omega)
      clear hd1 hd2 b3 hLx hGx
      gi_wp2_with (gi_at_call 43; refine (CallsIn.inRound l (callsIn_wide.2 (HPX.out W (HS0.out.below HB5.out HS0.out.1)))).mono ?_; rintro e w6 ⟨rfl, hB6⟩; have T6 := HE.out.keep hB6; have t0 := T6.1.cell 0; have t1 := T6.2.1.cell 0; have tf0 := T6.1.frozen 0; have tf1 := T6.2.1.frozen 0; simp only [List.getElem?_cons_zero] at t0 t1)
      have hsz := hB6.size
      have HMN := ((HM5.out.below hB6).store (G := A) (j := 0) (u := .int .i64 (TL' + Lx)) (by have := GLT.out; omega)).store (G := A + 1) (j := 0) (u := .int .i64 (TH' + Gx)) (by have := GLT.out; omega)
      exact ⟨(((keepsOthers_of hB6).trans (KeepsOthers.setCell _ _ _)).trans (KeepsOthers.setCell _ _ _)).from _, (keepB_of hB6 (fun g hg => Nat.lt_of_lt_of_le (HSL.out g hg) hz5)).trans (fun g hg => (Below.heap_setCell _ ⟨A + 1, 0, none⟩ _ g (by intro e; have e' : g = A + 1 := e; have := GKB.out; have := GLT.out; rcases hg with h | h <;> omega)).trans (Below.heap_setCell _ ⟨A, 0, none⟩ _ g (by intro e; have e' : g = A := e; have := GKB.out; have := GLT.out; rcases hg with h | h <;> omega))), by rw [E1.out, E2.out]; exact T6.sum _ _ (by have := GLT.out; omega), ⟨((HB5.out.trans (hB6.mono HB5.out.size)).setCell (p := ⟨A, 0, none⟩) (by show w.heap.size ≤ A; have := GLT.out; omega) _).setCell (p := ⟨A + 1, 0, none⟩) (by show w.heap.size ≤ A + 1; have := GLT.out; omega) _, by simp; omega⟩, HMN⟩
  case done =>
    rintro D ys W hD rfl ⟨hE, ⟨hB5, hz5⟩, hM5⟩ hK
    rw [sumF_all, sumF_all] at hE
    obtain ⟨TL', hTL⟩ : ∃ y, sumN (dlo z js lo ks bs) (nk - 1) = y := ⟨_, rfl⟩
    obtain ⟨TH', hTH⟩ : ∃ y, sumN (dhi z js hi ks bs) (nk - 1) = y := ⟨_, rfl⟩
    rw [hTL, hTH] at hE
    rw [hTL, hTH]
    have HTL := hid hTL; have HTH := hid hTH; have HK9 := hid hK; have HB9 := hid hB5; have HDD := hid hD; have RA := hid hE.1; have RB := hid hE.2.1
    clear hE hM5 hTL hTH hK hB5
    gi_upto_region 12 with fail
    refine wpIn_calm ?_
    refine region_held (S := fun W' : World => Row W' A 2 [.int .i64 TL'] ∧ Row W' (A + 1) 2 [.int .i64 TH']) (by kernel_rfl) (by kernel_rfl) (fun hnd => ?_)
    obtain ⟨Wd, hWd⟩ : ∃ y, y = World.drew W := ⟨_, rfl⟩
    have hbd : Below W.heap.size W Wd := by rw [hWd]; exact (Below.refl _ _).drew
    have HKd := hid (show Wd.heap[D]? = some (.deferred (some [])) by rw [hWd]; exact HK9.out)
    have HBd := hid (HB9.out.trans (hbd.mono HB9.out.size))
    have hS0 : (fun W' : World => Row W' A 2 [.int .i64 TL'] ∧ Row W' (A + 1) 2 [.int .i64 TH']) Wd := ⟨RA.out.below hbd RA.out.lt, RB.out.below hbd RB.out.lt⟩
    rw [← hWd]
    clear hWd hbd
    refine anyS_takeD (some 60) (i := 0) (v := ?_) hnd rfl rfl (by kernel_rfl) (by kernel_rfl) (by kernel_rfl) (fun _ _ _ h => h) ⟨by rfl, ?_, fun _ => rfl⟩ hS0 ?_
    rotate_left
    · intro w' hw'; obtain ⟨hr1, hr2⟩ := hw'; have g0 := Row.cell hr1 0; have g1 := Row.cell hr2 0; simp only [List.getElem?_cons_zero, List.getElem?_cons_succ] at g0 g1; clear hr1 hr2; go_simp; try with_reducible rfl
    try simp only [Act.put, List.setIfInBounds_toArray, List.set_cons_zero, List.set_cons_succ]
    refine anyS_takeD (some 61) (i := 1) (v := ?_) hnd rfl rfl (by kernel_rfl) (by kernel_rfl) (by kernel_rfl) (fun _ _ _ h => h) ⟨by rfl, ?_, fun _ => rfl⟩ hS0 ?_
    rotate_left
    · intro w' hw'; obtain ⟨hr1, hr2⟩ := hw'; have g0 := Row.cell hr1 0; have g1 := Row.cell hr2 0; simp only [List.getElem?_cons_zero, List.getElem?_cons_succ] at g0 g1; clear hr1 hr2; go_simp; try with_reducible rfl
    try simp only [Act.put, List.setIfInBounds_toArray, List.set_cons_zero, List.set_cons_succ]
    refine anyS_takeD (some 8) (i := 2) (v := ?_) hnd rfl rfl (by kernel_rfl) (by kernel_rfl) (by kernel_rfl) (fun _ _ _ h => h) ⟨by rfl, ?_, fun _ => rfl⟩ hS0 ?_
    rotate_left
    · intro w' hw'; go_simp; try with_reducible rfl
    try simp only [Act.put, List.setIfInBounds_toArray, List.set_cons_zero, List.set_cons_succ]
    refine anyS_takeD (some 9) (i := 3) (v := ?_) hnd rfl rfl (by kernel_rfl) (by kernel_rfl) (by kernel_rfl) (fun _ _ _ h => h) ⟨by rfl, ?_, fun _ => rfl⟩ hS0 ?_
    rotate_left
    · intro w' hw'; go_simp; try with_reducible rfl
    try simp only [Act.put, List.setIfInBounds_toArray, List.set_cons_zero, List.set_cons_succ]
    refine anyS_takeD (some 10) (i := 4) (v := ?_) hnd rfl rfl (by kernel_rfl) (by kernel_rfl) (by kernel_rfl) (fun _ _ _ h => h) ⟨by rfl, ?_, fun _ => rfl⟩ hS0 ?_
    rotate_left
    · intro w' hw'; go_simp; try with_reducible rfl
    try simp only [Act.put, List.setIfInBounds_toArray, List.set_cons_zero, List.set_cons_succ]
    refine anyS_done (by kernel_rfl) ?_ _
    clear hS0
    gi_wp2
    have hz := B1.out.size
    have hDD := HDD.out
    refine ⟨by simp, .inl ⟨_, _, rfl, run_takeDeferred HKd.out, ?_⟩⟩
    exact ⟨_, by simp [results, Try.f20, go_sem]; (first | rfl | exact ⟨HTL.out.symm, HTH.out.symm⟩ | (rw [HTL.out, HTH.out]; first | rfl | exact ⟨rfl, rfl⟩)), rfl, HBd.out.trans (belowK_b (w := w) (Nat.le_refl _) _ D _ _ (by omega) HKd.out rfl rfl)⟩
  case stop =>
    rintro D c' pre W hD _ h _
    exact h.elim
theorem implTotal_any (bS nS capS : Nat) (zs : List Int) (hnS : nS = zs.length) (b n cap : Nat) (js : List (Int × Int)) (hn : n = js.length) (lo hi : Int) (bk nk ck bb nb cb : Nat) (ks bs : List Int) (c : Int) (hnk : nk = ks.length) (hnb : nb = bs.length) (w : World)
    (hS : Stk w bS zs) (hR : Rst w b js) (hK : Lst w bk ks) (hBr : Lst w bb bs) :
    Calls Try.prog 20 #[.slice (some ⟨bS, 0, none⟩) nS capS, .slice (some ⟨b, 0, none⟩) n cap, .agg #[.int .i64 lo, .int .i64 hi], .agg #[.slice (some ⟨bk, 0, none⟩) nk ck, .slice (some ⟨bb, 0, none⟩) nb cb, .int .i64 c]] w (GivesB w (tup3 (totR zs js lo hi ks bs c))) := by
  cases hok : (okG zs js && okF lo hi) with
  | false => exact implTotal_no bS nS capS zs hnS b n cap js hn lo hi bk nk ck bb nb cb ks bs c hnk hnb w hS hR hK hBr hok
  | true =>
    have hg : okG zs js = true := by simp at hok; exact hok.1
    have hf : okF lo hi = true := by simp at hok; exact hok.2
    cases ht : tellB (szL zs) js lo hi ks bs c with
    | false => exact implTotal_false bS nS capS zs hnS b n cap js hn lo hi bk nk ck bb nb cb ks bs c hnk hnb w hS hR hK hBr hg hf ht
    | true => exact implTotal_yes bS nS capS zs hnS b n cap js hn lo hi bk nk ck bb nb cb ks bs c hnk hnb w hS hR hK hBr hg hf ht
end Go.Proofs.Ytilbpgcgjbblaaa
