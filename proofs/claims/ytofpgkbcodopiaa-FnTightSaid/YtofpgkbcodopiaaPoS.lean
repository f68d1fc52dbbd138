/- A stack and a log that are drawn. -/
import Derived.Test.YtofpgkbcodopiaaPoM
import Derived.Test.YtofpgkbcodopiaaSizes
import Derived.Test.YtofpgkbcodopiaaFmeA
import Derived.Test.YtofpgkbcodopiaaTvals
import Derived.Test.YtofpgkbcodopiaaSrcP
import Derived.Test.YtofpgkbcodopiaaHeld
import Derived.OrdersHeld
import Derived.Deep.RegionHeld3
namespace Go.Proofs.Ytofpgkbcodopiaa
open Go.RowKit
set_option linter.unusedVariables false
set_option linter.unusedSimpArgs false
theorem one_any (g i : Nat) (zs : List Int) (n : Int) (w : World) (h : SrcAt w g i zs) (hi : i ≤ 900000) (hn : n ≤ 4611686018427387904) :
    Calls Try.prog 45 #[.pointer (some ⟨g, 0, none⟩), .int .i64 n] w fun e w' => ∃ (b : Bool) (j : Nat), e = .returned (.bool b) ∧ i ≤ j ∧ j ≤ i + 2 ∧ SrcAt w' g j zs ∧ OnlyB g w w' := by
  have HP := hid (pick_any g i zs n w h hi hn)
  clear h hi hn
  go_enter Try.func45, Try.ntmps45
  go_wp2_with fail
  with_reducible refine HP.out.mono ?_
  rintro e w1 ⟨x, j, x0, x1, rfl, hj, hj2, hS, hO⟩
  have HS := hid hS; have HO := hid hO; have HJ := hid (And.intro hj hj2)
  clear hS hO hj hj2 x1
  by_cases hx : x = 0
  · have h1 : (x == 0) = true := by simpa using hx
    go_wp2_with fail
    go_ret
    exact ⟨true, j, by first | rfl | simp_all, HJ.out.1, HJ.out.2, HS.out, HO.out⟩
  · have h1 : (x == 0) = false := by simpa using hx
    go_wp2_with fail
    go_ret
    exact ⟨false, j, by first | rfl | simp_all, HJ.out.1, HJ.out.2, HS.out, HO.out⟩
theorem stk_row {w : World} {B : Nat} {zs : List Int} {T : TypeId} (h : Row w B T (zs.map (Value.int .u8))) (hz : ∀ z ∈ zs, 0 ≤ z ∧ z ≤ 255) (hl : zs.length ≤ 1048576) : Stk w B zs := by
  refine ⟨h.lt, ?_, hz, hl⟩
  intro j hj
  rw [h.cell j, List.getElem?_map, List.getElem?_eq_getElem hj]
  simp [hj]
theorem Try.infoRdP : (Try.prog.info? 38).map (fun i => (i.zero, i.size, i.bytes)) = some (some (.agg #[.int .i64 0, .int .i64 0]), 2, 16) := by kernel_rfl
theorem tvals_snocG (js : List (Int × Int)) (d v : Int) : tvals (js ++ [(d, v)]) = tvals js ++ [.int .i64 d, .int .i64 v] := by
  apply List.ext_getElem?
  intro i
  have L : (tvals (js ++ [(d, v)])).length = js.length * 2 + 2 := by rw [tvals_len]; simp; omega
  by_cases h : i < js.length * 2
  · rw [List.getElem?_append_left (by rw [tvals_len]; exact h)]
    have e : i = i / 2 * 2 ∨ i = i / 2 * 2 + 1 := by omega
    have q := tvals_get (js ++ [(d, v)]) [] (i / 2) (by simp; omega)
    have p := tvals_get js [] (i / 2) (by omega)
    simp only [List.append_nil] at p q
    rw [(rd_old (show i / 2 < js.length by omega)).1, (rd_old (show i / 2 < js.length by omega)).2] at q
    rcases e with e | e
    · rw [e, p.1, q.1]
    · rw [e, p.2, q.2]
  · rw [List.getElem?_append_right (by rw [tvals_len]; omega), tvals_len]
    have q := tvals_get (js ++ [(d, v)]) [] js.length (by simp)
    simp only [List.append_nil] at q
    rw [rd_new.1, rd_new.2] at q
    by_cases e1 : i = js.length * 2
    · subst e1; rw [q.1]; simp
    · by_cases e2 : i = js.length * 2 + 1
      · subst e2; rw [q.2]; simp
      · rw [List.getElem?_eq_none (by rw [L]; omega), List.getElem?_eq_none (by simp; omega)]
theorem owns_only {w w' : World} {base g size n : Nat} {e : TypeId} {v : Value} {xs : List Value} (h : w.ownsRow base e size v n xs) (o : OnlyB g w w') (hg : g < base) : w'.ownsRow base e size v n xs := by
  obtain ⟨h1, h2 | ⟨q, cap, cur, h2, h3, h4, r⟩⟩ := h
  · exact ⟨h1, .inl h2⟩
  · exact ⟨h1, .inr ⟨q, cap, cur, h2, h3, (o.2.1 q (by omega)).trans h4, r⟩⟩
theorem owns_setV {w : World} {base p size n j : Nat} {e : TypeId} {v u : Value} {xs : List Value} (h : w.ownsRow base e size v n xs) (hp : ∀ k, v.ownBlock = some k → k ≠ p) : (w.setCell ⟨p, j, none⟩ u).ownsRow base e size v n xs := by
  obtain ⟨h1, h2 | ⟨q, cap, cur, rfl, h3, h4, r⟩⟩ := h
  · exact ⟨h1, .inl h2⟩
  · exact ⟨h1, .inr ⟨q, cap, cur, rfl, h3, (Below.heap_setCell w ⟨p, j, none⟩ _ q (hp q rfl)).trans h4, r⟩⟩
/-- all that was there but for one block stays -/
def Oth (g : Nat) (w W : World) : Prop := w.heap.size ≤ W.heap.size ∧ ∀ q, q < w.heap.size → q ≠ g → W.heap[q]? = w.heap[q]?
theorem Oth.refl (g : Nat) (w : World) : Oth g w w := ⟨Nat.le_refl _, fun _ _ _ => rfl⟩
theorem Oth.below {g : Nat} {w W : World} (h : Below w.heap.size w W) : Oth g w W := ⟨h.size, fun q hq _ => h.block q hq⟩
theorem Oth.only {g : Nat} {w W W' : World} (h : Oth g w W) (o : OnlyB g W W') : Oth g w W' := ⟨by rw [o.1]; exact h.1, fun q hq hg => (o.2.1 q hg).trans (h.2 q hq hg)⟩
theorem Oth.on {g n : Nat} {w W W' : World} (h : Oth g w W) (hb : Below n W W') (hn : w.heap.size ≤ n) : Oth g w W' := ⟨Nat.le_trans h.1 hb.size, fun q hq hg => (hb.block q (by omega)).trans (h.2 q hq hg)⟩
theorem Oth.row {g q : Nat} {w W : World} {T : TypeId} {xs : List Value} (h : Oth g w W) (r : Row w q T xs) (hq : q ≠ g) : Row W q T xs := (h.2 q r.lt hq).trans r
/-- what is drawn so far: flow, stack, the reading at hand, the log -/
def DS (g R B Rr L : Nat) (lo hi : Int) (Z zs : List Int) (d u : Int) (js : List (Int × Int)) (v : Value) (j : Nat) (w W : World) : Prop :=
  (g < R ∧ g < B ∧ R < L ∧ B < L ∧ L ≤ Rr ∧ w.heap.size ≤ R ∧ Oth g w W) ∧ Row W R 27 [.int .i64 lo, .int .i64 hi] ∧ Row W B 5 (Z.map (Value.int .u8)) ∧ Row W Rr 38 [.int .i64 d, .int .i64 u] ∧ SrcAt W g j zs ∧ W.ownsRow L 38 2 v js.length (tvals js) ∧ ((∀ k, v.ownBlock = some k → k ≠ Rr) ∧ v.ownBlock ≠ none) ∧ Below g w W
section
variable {g R B Rr L : Nat} {lo hi : Int} {Z zs : List Int} {d u : Int} {js : List (Int × Int)} {v : Value} {j : Nat} {w W W' : World}
theorem DS.only {j' : Nat} (h : DS g R B Rr L lo hi Z zs d u js v j w W) (o : OnlyB g W W') (s : SrcAt W' g j' zs) : DS g R B Rr L lo hi Z zs d u js v j' w W' := by
  obtain ⟨⟨a, b, c, e, f, sz, ot⟩, r1, r2, r3, _, ow, ne, hb⟩ := h
  exact ⟨⟨a, b, c, e, f, sz, ot.only o⟩, o.row r1 (by omega), o.row r2 (by omega), o.row r3 (by omega), s, owns_only ow o (by omega), ne, hb.trans o.2.2⟩
theorem DS.src (h : DS g R B Rr L lo hi Z zs d u js v j w W) : SrcAt W g j zs := h.2.2.2.2.1
theorem DS.rr (h : DS g R B Rr L lo hi Z zs d u js v j w W) : Row W Rr 38 [.int .i64 d, .int .i64 u] := h.2.2.2.1
theorem DS.fl (h : DS g R B Rr L lo hi Z zs d u js v j w W) : Row W R 27 [.int .i64 lo, .int .i64 hi] := h.2.1
theorem DS.ow (h : DS g R B Rr L lo hi Z zs d u js v j w W) : W.ownsRow L 38 2 v js.length (tvals js) := h.2.2.2.2.2.1
theorem DS.alloc (h : DS g R B Rr L lo hi Z zs d u js v j w W) (o : Obj) : DS g R B Rr L lo hi Z zs d u js v j w (W.alloc o) := by
  obtain ⟨⟨a, b, c, e, f, sz, ot⟩, r1, r2, r3, s, ow, ne, hb⟩ := h
  exact ⟨⟨a, b, c, e, f, sz, ot.on ((Below.refl W.heap.size W).alloc (Nat.le_refl _) _) ot.1⟩, r1.alloc _, r2.alloc _, r3.alloc _, s.below ((Below.refl (g + 1) W).alloc (by have := r1.lt; omega) _) (by omega), ow.alloc _, ne, hb.alloc (by have := r1.lt; omega) _⟩
theorem DS.far (h : DS g R B Rr L lo hi Z zs d u js v j w W) {p i : Nat} {x : Value} (hp : Rr < p) (hv : ∀ k, v.ownBlock = some k → k ≠ p) : DS g R B Rr L lo hi Z zs d u js v j w (W.setCell ⟨p, i, none⟩ x) := by
  obtain ⟨⟨a, b, c, e, f, sz, ot⟩, r1, r2, r3, s, ow, ne, hb⟩ := h
  exact ⟨⟨a, b, c, e, f, sz, ot.on ((Below.refl R W).setCell (p := ⟨p, i, none⟩) (by show R ≤ p; omega) _) sz⟩, r1.other (a := ⟨p, i, none⟩) (by show p ≠ R; omega) _, r2.other (a := ⟨p, i, none⟩) (by show p ≠ B; omega) _, r3.other (a := ⟨p, i, none⟩) (by show p ≠ Rr; omega) _, s.below ((Below.refl (g + 1) W).setCell (p := ⟨p, i, none⟩) (by show g + 1 ≤ p; omega) _) (by omega), owns_setV ow hv, ne, hb.setCell (p := ⟨p, i, none⟩) (by show g ≤ p; omega) _⟩
theorem DS.day {d' : Int} (h : DS g R B Rr L lo hi Z zs d u js v j w W) : DS g R B Rr L lo hi Z zs d' u js v j w (W.setCell ⟨Rr, 0, none⟩ (.int .i64 d')) := by
  obtain ⟨⟨a, b, c, e, f, sz, ot⟩, r1, r2, r3, s, ow, ne, hb⟩ := h
  exact ⟨⟨a, b, c, e, f, sz, ot.on ((Below.refl R W).setCell (p := ⟨Rr, 0, none⟩) (by show R ≤ Rr; omega) _) sz⟩, r1.other (a := ⟨Rr, 0, none⟩) (by show Rr ≠ R; omega) _, r2.other (a := ⟨Rr, 0, none⟩) (by show Rr ≠ B; omega) _, r3.set 0 _, s.below ((Below.refl (g + 1) W).setCell (p := ⟨Rr, 0, none⟩) (by show g + 1 ≤ Rr; omega) _) (by omega), owns_setV ow ne.1, ne, hb.setCell (p := ⟨Rr, 0, none⟩) (by show g ≤ Rr; omega) _⟩
theorem DS.val {u' : Int} (h : DS g R B Rr L lo hi Z zs d u js v j w W) : DS g R B Rr L lo hi Z zs d u' js v j w (W.setCell ⟨Rr, 1, none⟩ (.int .i64 u')) := by
  obtain ⟨⟨a, b, c, e, f, sz, ot⟩, r1, r2, r3, s, ow, ne, hb⟩ := h
  exact ⟨⟨a, b, c, e, f, sz, ot.on ((Below.refl R W).setCell (p := ⟨Rr, 1, none⟩) (by show R ≤ Rr; omega) _) sz⟩, r1.other (a := ⟨Rr, 1, none⟩) (by show Rr ≠ R; omega) _, r2.other (a := ⟨Rr, 1, none⟩) (by show Rr ≠ B; omega) _, r3.set 1 _, s.below ((Below.refl (g + 1) W).setCell (p := ⟨Rr, 1, none⟩) (by show g + 1 ≤ Rr; omega) _) (by omega), owns_setV ow ne.1, ne, hb.setCell (p := ⟨Rr, 1, none⟩) (by show g ≤ Rr; omega) _⟩
theorem DS.app {v' : Value} {js' : List (Int × Int)} (h : DS g R B Rr L lo hi Z zs d u js v j w W) (hg : W.grownBy W' v.ownBlock) (ho : W'.ownsRow L 38 2 v' js'.length (tvals js')) (hv : v'.ownBlock = v.ownBlock ∨ v'.ownBlock = some W.heap.size) : DS g R B Rr L lo hi Z zs d u js' v' j w W' := by
  obtain ⟨⟨a, b, c, e, f, sz, ot⟩, r1, r2, r3, s, ow, ne, hb⟩ := h
  have lt := fun kk e => (ow.lt kk e).1
  have l3 := r3.lt
  have bl : Below L W W' := (Below.refl L W).grown hg (by omega) (fun kk e => lt kk e)
  refine ⟨⟨a, b, c, e, f, sz, ot.on bl (by omega)⟩, r1.below bl c, r2.below bl e, ?_, s.below bl (by omega), ho, ?_, hb.trans (bl.mono (by omega))⟩
  · exact (hg.block Rr l3 (fun h => ne.1 Rr h.symm rfl)).trans r3
  · refine ⟨?_, ?_⟩
    · intro k hk e
      subst e
      rcases hv with h | h
      · exact ne.1 k (h.symm.trans hk) rfl
      · have := Option.some.inj (h.symm.trans hk); omega
    · rcases hv with h | h
      · rw [h]; exact ne.2
      · rw [h]; simp
end
/-- a stack and a log, drawn -/
def LgD (g : Nat) (w : World) (e : Ending) (w' : World) : Prop := ∃ (Z : List Int) (js : List (Int × Int)) (d : Int) (v : Value) (B L : Nat), e = .returned (.tuple #[.slice (some ⟨B, 0, none⟩) Z.length Z.length, v]) ∧ (Z = [10, 10, 10] ∨ Z = [6, 4, 3] ∨ Z = [10, 10]) ∧ js.length ≤ 8 ∧ LogP (szL Z) js d ∧ Row w' B 5 (Z.map (Value.int .u8)) ∧ w.heap.size < B ∧ B < L ∧ w'.ownsRow L 38 2 v js.length (tvals js) ∧ Below g w w' ∧ Oth g w w' ∧ v.ownBlock ≠ none
set_option maxRecDepth 100000 in
set_option maxHeartbeats 4000000 in
theorem l04Drawn_any (g i : Nat) (zs : List Int) (lo hi' : Int) (hlo : 0 ≤ lo ∧ lo ≤ 1000) (w : World) (h : SrcAt w g i zs) (hi : i ≤ 100) (hgw : g < w.heap.size) :
    Calls Try.prog 17 #[.pointer (some ⟨g, 0, none⟩), .agg #[.int .i64 lo, .int .i64 hi']] w (LgD g w) := by
  obtain ⟨R, hR⟩ : ∃ R, w.heap.size = R := ⟨_, rfl⟩
  obtain ⟨i0, hi0, iz0, iz1, iz2⟩ := info_parts Try.infoRdP
  have rR := (Row.new w 27 [.int .i64 lo, .int .i64 hi']).alloc (.cells #[.int .u8 10, .int .u8 10] 5)
  have rB := Row.new (w.alloc (.cells #[.int .i64 lo, .int .i64 hi'] 27)) 5 (([10, 10] : List Int).map (Value.int .u8))
  have b1 : Below w.heap.size w ((w.alloc (.cells #[.int .i64 lo, .int .i64 hi'] 27)).alloc (.cells #[.int .u8 10, .int .u8 10] 5)) := ((Below.refl _ _).alloc (Nat.le_refl _) _).alloc (by simp) _
  have s1 : ((w.alloc (.cells #[.int .i64 lo, .int .i64 hi'] 27)).alloc (.cells #[.int .u8 10, .int .u8 10] 5)).heap.size = R + 2 := by simp [hR]
  have s0 : (w.alloc (.cells #[.int .i64 lo, .int .i64 hi'] 27)).heap.size = R + 1 := by simp [hR]
  obtain ⟨V1, hV1⟩ : ∃ X, X = (w.alloc (.cells #[.int .i64 lo, .int .i64 hi'] 27)).alloc (.cells #[.int .u8 10, .int .u8 10] 5) := ⟨_, rfl⟩
  have rB' : Row V1 (R + 1) 5 (([10, 10] : List Int).map (Value.int .u8)) := by rw [hV1, ← s0]; exact rB
  rw [← hV1] at rR b1 s1
  rw [hR] at rR b1
  have src1 := h.below b1 (by omega)
  have HP1 := hid (pick_any g i zs 4 V1 src1 (by omega) (by omega))
  have OT := hid (Oth.below (g := g) (w := w) (by rw [hR]; exact b1)); have HB1 := hid (b1.mono (show g ≤ R by omega)); have HS1 := hid s1; have HRR := hid rR; have HRB := hid rB'; have HGR := hid (show g < R by omega); have HV1 := hid hV1; have HRW := hid hR; have HLO := hid hlo
  clear h hgw rR rB rB' b1 s0 s1 src1 hV1
  go_enter Try.func17, Try.ntmps17
  go_wp2_with fail
  rw [← HV1.out]
  with_reducible refine HP1.out.mono ?_
  rintro e w2 ⟨x, j, x0, x1, rfl, hj, hj2, hS, hO⟩
  have rR := hO.row HRR.out (by have := HGR.out; omega)
  have rB := hO.row HRB.out (by have := HGR.out; omega)
  have bb := HB1.out.trans hO.2.2
  have OT := hid (OT.out.only hO)
  have s2 : w2.heap.size = R + 2 := by rw [hO.1]; exact HS1.out
  have key : x = 0 ∨ x = 1 ∨ (¬ x = 0 ∧ ¬ x = 1) := by omega
  have hj9 : j ≤ 102 := by omega
  have SRC := hid hS; have J0 := hid hj9
  clear hS hO hj hj2 x1 HP1 HB1 HS1 HRR HRB HV1 hj9
  rcases key with hx | hx | hx
  · subst hx
    have rB2 := Row.new w2 5 (([10, 10, 10] : List Int).map (Value.int .u8))
    have rR2 := rR.alloc (.cells #[.int .u8 10, .int .u8 10, .int .u8 10] 5)
    have a2 : Below w2.heap.size w2 (w2.alloc (.cells #[.int .u8 10, .int .u8 10, .int .u8 10] 5)) := (Below.refl _ _).alloc (Nat.le_refl _) _
    have b2 := bb.trans (a2.mono (by have := HGR.out; omega))
    have s3 : (w2.alloc (.cells #[.int .u8 10, .int .u8 10, .int .u8 10] 5)).heap.size = R + 3 := by simp [s2]
    have src2 := SRC.out.below a2 (by have := HGR.out; omega)
    obtain ⟨V2, hV2⟩ : ∃ X, X = w2.alloc (.cells #[.int .u8 10, .int .u8 10, .int .u8 10] 5) := ⟨_, rfl⟩
    replace rB2 : Row V2 (R + 2) 5 (([10, 10, 10] : List Int).map (Value.int .u8)) := by rw [hV2, ← s2]; exact rB2
    have OT := hid (show Oth g w V2 from by rw [hV2]; exact OT.out.on a2 (by omega))
    rw [← hV2] at rR2 b2 s3 src2
    have HV2 := hid hV2; have HS2 := hid s2
    clear s2 rR rB a2 hV2 bb SRC x0
    have st2 := stk_row (zs := [10, 10, 10]) rB2 (by decide) (by decide)
    have wz : szL [10, 10, 10] = 1000 := by decide
    have HSZ := hid (l01Size_is (R + 2) 3 3 [10, 10, 10] rfl (by decide) V2 st2)
    rw [wz] at HSZ
    have rR3 := rR2.alloc (.cells #[] 38)
    have rB3 := rB2.alloc (.cells #[] 38)
    have b3 := b2.alloc (by have := HGR.out; omega) (.cells #[] 38)
    have src3 := src2.below ((Below.refl (g + 1) V2).alloc (by have := HGR.out; omega) (.cells #[] 38)) (by omega)
    obtain ⟨L, hL⟩ : ∃ L, V2.heap.size = L := ⟨_, rfl⟩
    have o3 : (V2.alloc (.cells #[] 38)).ownsRow L 38 2 (.slice (some ⟨V2.heap.size, 0, none⟩) 0 0) 0 [] := World.ownsRow_made _ _ 0 (by omega) (by decide) rfl
    have s4 : (V2.alloc (.cells #[] 38)).heap.size = L + 1 := by simp [hL]
    have hRL : R < L ∧ R + 2 < L := by omega
    rw [hL] at o3
    obtain ⟨V3, hV3⟩ : ∃ X, X = V2.alloc (.cells #[] 38) := ⟨_, rfl⟩
    have OT := hid (show Oth g w V3 from by rw [hV3]; exact OT.out.on ((Below.refl V2.heap.size V2).alloc (Nat.le_refl _) _) OT.out.1)
    rw [← hV3] at rR3 rB3 b3 src3 o3 s4
    have HP3 := hid (pick_any g j zs 5 V3 src3 (by have := J0.out; omega) (by omega))
    have HV3 := hid hV3; have HLL := hid hL; have RR3 := hid rR3; have RB3 := hid rB3; have B3 := hid b3; have O3 := hid o3; have S4 := hid s4; have HRL := hid hRL
    clear st2 rR2 rB2 b2 src2 rR3 rB3 b3 src3 o3 s4 hRL hL hV3 s3
    go_upto_region 7 with fail
    rw [← HV2.out, HS2.out]
    go_wp2_with fail
    with_reducible refine HSZ.out.mono ?_
    rintro e w3 ⟨rfl, hw⟩
    subst hw
    go_upto_region 9 with fail
    rw [← HV3.out, HLL.out]
    go_wp2_with fail
    with_reducible refine HP3.out.mono ?_
    rintro e w4 ⟨d0, j4, d00, d01, rfl, hj, hj2, hS, hO⟩
    have rR := hO.row RR3.out (by have := HGR.out; omega)
    have rB := hO.row RB3.out (by have := HGR.out; omega)
    have bb := B3.out.trans hO.2.2
    have ow := owns_only O3.out hO (by have := HGR.out; have := HRL.out; omega)
    have OT := hid (OT.out.only hO)
    have s5 : w4.heap.size = L + 1 := by rw [hO.1]; exact S4.out
    have HP4 := hid (pick_any g j4 zs 1000 w4 hS (by have := J0.out; omega) (by omega))
    have RR3 := hid rR; have RB3 := hid rB; have B3 := hid bb; have O3 := hid ow; have S4 := hid s5; have J4 := hid (show j4 ≤ 104 by have := J0.out; omega)
    have D0 := hid (show 0 ≤ d0 ∧ d0 ≤ 4 by omega)
    clear hS hO hj hj2 d00 d01 rR rB bb ow s5 J0 HP3 HSZ
    go_wp2_with fail
    with_reducible refine HP4.out.mono ?_
    rintro e w5 ⟨u0, j5, u00, u01, rfl, hj, hj2, hS, hO⟩
    have rR := hO.row RR3.out (by have := HGR.out; omega)
    have rB := hO.row RB3.out (by have := HGR.out; omega)
    have bb := B3.out.trans hO.2.2
    have ow := owns_only O3.out hO (by have := HGR.out; have := HRL.out; omega)
    have OT := hid (OT.out.only hO)
    have s6 : w5.heap.size = L + 1 := by rw [hO.1]; exact S4.out
    have U0 := hid (show 0 ≤ u0 ∧ u0 < 1000 by omega)
    have rr := Row.new w5 38 [.int .i64 d0, .int .i64 u0]
    have DS0 : DS g R (R + 2) (L + 1) L lo hi' [10, 10, 10] zs d0 u0 [] (.slice (some ⟨L, 0, none⟩) 0 0) j5 w (w5.alloc (.cells #[.int .i64 d0, .int .i64 u0] 38)) := by
      have h1 := HGR.out; have h2 := HRL.out
      have lt5 := rR.lt
      refine ⟨⟨h1, by omega, h2.1, h2.2, by omega, by have := HRW.out; omega, OT.out.on ((Below.refl w5.heap.size w5).alloc (Nat.le_refl _) _) OT.out.1⟩, rR.alloc _, rB.alloc _, ?_, hS.below ((Below.refl (g + 1) w5).alloc (by omega) _) (by omega), ow.alloc _, ?_, bb.alloc (by omega) _⟩
      · rw [← s6]; exact rr
      · exact ⟨fun k hk => by cases hk; show L ≠ L + 1; omega, by simp [Value.ownBlock]⟩
    obtain ⟨V5, hV5⟩ : ∃ X, X = w5.alloc (.cells #[.int .i64 d0, .int .i64 u0] 38) := ⟨_, rfl⟩
    rw [← hV5] at DS0
    have HP5 := hid (pick_any g j5 zs 9 V5 DS0.src (by have := J4.out; omega) (by omega))
    have HV5 := hid hV5; have HDS := hid DS0; have S6 := hid s6; have J5 := hid (show j5 ≤ 106 by have := J4.out; omega)
    clear hS hO hj hj2 u00 u01 rR rB bb ow s6 rr DS0 hV5 J4 HP4 RR3 RB3 B3 O3 S4
    go_upto_region 10 with fail
    rw [← HV5.out, S6.out]
    go_wp2_with fail
    with_reducible refine HP5.out.mono ?_
    rintro e w6 ⟨x, j6, x0, x1, rfl, hj, hj2, hS, hO⟩
    obtain ⟨K, rfl⟩ : ∃ K : Nat, x = K := ⟨x.toNat, by omega⟩
    have HDS6 := hid (HDS.out.only hO hS)
    have KB := hid (show K ≤ 8 by omega); have J6 := hid (show j6 ≤ 108 by have := J5.out; omega)
    have HLP := hid (LogP.nil 1000 d0 D0.out)
    clear hS hO hj hj2 x0 x1 J5 HP5 HDS HV5
    go_wp2_with fail
    go_loopw [8, 10] (fun s8 s10 wr => ∃ (k j : Nat) (v : Value) (js : List (Int × Int)) (d u : Int), js.length + k = K ∧ j + 14 * k ≤ 230 ∧ s10 = .int .i64 k ∧ v = s8 ∧ LogP 1000 js d ∧ (0 ≤ u ∧ u < 1000) ∧ DS g R (R + 2) (L + 1) L lo hi' [10, 10, 10] zs d u js v j w wr) (fun _ s10 _ => (intOf s10).toNat)
    case atStart => exact ⟨K, j6, _, [], d0, u0, by simp, by have := J6.out; have := KB.out; omega, rfl, rfl, HLP.out, U0.out, HDS6.out⟩
    case round =>
      obtain ⟨k, j, v, js, d, u, hk, hjk, rfl, rfl, hLP, hu, hD⟩ := hrel
      have LPd := hLP
      obtain ⟨_, _, hd0, hd9⟩ := LPd
      by_cases hk0 : 0 < k
      · have k1 : (0 : Int) < (k : Int) := by omega
        have w1' : IntKind.i64.wrap ((k : Int) - 1) = (k : Int) - 1 := IntWalk.i64_in _ (by omega)
        have HJK := hid hjk; have HK := hid hk; have HLP1 := hid hLP; have HU := hid hu; have HDD := hid (show 0 ≤ d ∧ d ≤ 40 by have := KB.out; omega)
        have rr := hD.rr
        have x0 := rr.cell 0; have x1 := rr.cell 1
        simp only [List.getElem?_cons_zero, List.getElem?_cons_succ] at x0 x1
        have rx := Row.new wr 38 [.int .i64 d, .int .i64 u]
        have hD1 := hD.alloc (.cells #[.int .i64 d, .int .i64 u] 38)
        obtain ⟨Rx, hRx⟩ : ∃ q, wr.heap.size = q := ⟨_, rfl⟩
        have hRx2 : L + 1 < Rx := by rw [← hRx]; exact rr.lt
        have hvx : ∀ kk, v.ownBlock = some kk → kk ≠ Rx := fun kk e => by have := (hD.ow.lt kk e).2; omega
        rw [hRx] at rx
        obtain ⟨X1, hX1⟩ : ∃ X, X = wr.alloc (.cells #[.int .i64 d, .int .i64 u] 38) := ⟨_, rfl⟩
        rw [← hX1] at rx hD1
        have HO1 := hid (one_any g j zs 6 X1 hD1.src (by omega) (by omega))
        have HX1 := hid hX1; have HRX := hid hRx; have HD1 := hid hD1; have RX := hid rx; have HRX2 := hid hRx2; have HVX := hid hvx
        clear hjk hk hLP hu hD hd0 hd9 rr rx hD1 hRx hRx2 hvx hX1 hk0
        go_upto_region 14 with fail
        rw [← HX1.out, HRX.out]
        clear x0 x1
        go_wp2_with fail
        with_reducible refine HO1.out.mono ?_
        rintro e X2 ⟨b, j2, rfl, hj, hj2, hS, hO⟩
        have HD2 := hid (HD1.out.only hO hS)
        have RX2 := hid (hO.row RX.out (by have := HD1.out.1; have := HRX2.out; omega))
        have HJ2 := hid (show j2 ≤ j + 2 from hj2)
        clear hS hO hj hj2 HO1 HD1 RX HX1
        cases b with
        | true =>
          have HP3 := hid (pick_any g j2 zs 1000 X2 HD2.out.src (by have := HJ2.out; have := HJK.out; omega) (by omega))
          go_wp2_with fail
          with_reducible refine HP3.out.mono ?_
          rintro e X3 ⟨y, j3, y0, y1, rfl, hj, hj2, hS, hO⟩
          have hrx := hO.row RX2.out (by have := HD2.out.1; have := HRX2.out; omega)
          have fx := hrx.frozen 1
          have e0 := hrx.cell 0; have e1 := hrx.cell 1
          simp only [List.getElem?_cons_zero, List.getElem?_cons_succ] at e0 e1
          have hrx4 := hrx.set 1 (.int .i64 y)
          simp only [List.set_cons_zero, List.set_cons_succ] at hrx4
          have hD4 := (HD2.out.only hO hS).far (p := Rx) (i := 1) (x := .int .i64 y) HRX2.out HVX.out
          obtain ⟨X4, hX4⟩ : ∃ X, X = X3.setCell ⟨Rx, 1, none⟩ (.int .i64 y) := ⟨_, rfl⟩
          rw [← hX4] at hrx4 hD4
          have HX4 := hid hX4; have HY := hid (show 0 ≤ y ∧ y < 1000 by omega); have HJ3 := hid (show j3 ≤ j + 4 by have := HJ2.out; omega)
          have RX4 := hid hrx4; have HD4 := hid hD4
          clear hS hO hj hj2 y0 y1 hrx hrx4 hD4 hX4 HP3 HD2 RX2 HJ2
          go_upto_region 16 with fail
          rw [← HX4.out]
          clear e0 e1 fx HX4
          have hD4 := HD4.out
          have hrx := RX4.out
          have x0 := hrx.cell 0; have x1 := hrx.cell 1
          simp only [List.getElem?_cons_zero, List.getElem?_cons_succ] at x0 x1
          have hD5 := hD4.alloc (.cells #[.int .i64 d, .int .i64 y] 38)
          have news := Row.new X4 38 [.int .i64 d, .int .i64 y]
          have nc := hid (show ∀ j u, ([.int .i64 d, .int .i64 y] : List Value)[j]? = some u → (X4.alloc (.cells #[.int .i64 d, .int .i64 y] 38)).cell? ((⟨X4.heap.size, 0, none⟩ : Addr).add j) = some u from fun j u hj => by
            rw [show (⟨X4.heap.size, 0, none⟩ : Addr).add j = ⟨X4.heap.size, j, none⟩ from by unfold Addr.add; split <;> simp_all]
            exact (news.cell j).trans hj)
          have HONE := hid (show ∀ u ∈ ([.int .i64 d, .int .i64 y] : List Value), u.oneCell' = true from by intro u hu; simp at hu; rcases hu with rfl | rfl <;> rfl)
          have HO5 := hid (show (X4.alloc (.cells #[.int .i64 d, .int .i64 y] 38)).ownsRow L 38 2 v js.length (tvals js) from hD5.ow)
          have HLN := hid (show js.length ≤ 8 by have := HK.out; have := KB.out; omega)
          have HBW := hid (show L ≤ (X4.alloc (.cells #[.int .i64 d, .int .i64 y] 38)).heap.size by have := hD5.rr.lt; omega)
          have HD5 := hid hD5
          clear hD4 hrx hD5 news
          go_wp2_with (at_builtin; refine wpList_append_own_at _ rfl _ _ 25 rfl L 38 i0 (.agg #[.int .i64 0, .int .i64 0]) 2 16 Try.underlying25 hi0 iz0 iz1 iz2 rfl (by decide) _ _ _ rfl HO5.out ⟨X4.heap.size, 0, none⟩ 1 1 ([.int .i64 d, .int .i64 y] : List Value) rfl rfl nc.out HONE.out (by have := HLN.out; unfold maxLen; omega) (by have := HLN.out; omega) HBW.out ?_; rintro v' X6 hown' hgrow - hblk; have OWN := hid hown'; have GRW := hid hgrow; have BLK := hid hblk; clear hown' hgrow hblk)
          have OW := OWN.out
          rw [← tvals_snocG js d y, show js.length + 1 = (js ++ [(d, y)]).length by simp] at OW
          have hD6 := HD5.out.app GRW.out OW BLK.out
          have HD6 := hid hD6
          have HP6 := hid (pick_any g j3 zs 4 X6 hD6.src (by have := HJ3.out; have := HJK.out; omega) (by omega))
          clear OW hD6 x0 x1 OWN GRW BLK HBW HONE HO5 HD5 nc
          go_wp2_with fail
          with_reducible refine HP6.out.mono ?_
          rintro e X7 ⟨e4, j7, e0, e1, rfl, hj, hj2, hS, hO⟩
          obtain ⟨E, hE⟩ : ∃ E, 1 + e4 = E := ⟨_, rfl⟩
          have we : IntKind.i64.wrap (1 + e4) = E := (IntWalk.i64_in _ (by omega)).trans hE
          have hEb : 1 ≤ E ∧ E ≤ 4 := by omega
          have hD7 := HD6.out.only hO hS
          have rr := hD7.rr
          have r0 := rr.cell 0; have r1 := rr.cell 1; have f0 := rr.frozen 0; have f1 := rr.frozen 1
          simp only [List.getElem?_cons_zero, List.getElem?_cons_succ] at r0 r1
          obtain ⟨d', hd'⟩ : ∃ q, d + E = q := ⟨_, rfl⟩
          have wd : IntKind.i64.wrap (d + E) = d' := by rw [IntWalk.i64_in _ (by have := HDD.out; omega)]; exact hd'
          have hD8 := hD7.day (d' := d')
          have HLP2 := hid (show LogP 1000 (js ++ [(d, y)]) d' by rw [← hd']; exact HLP1.out.snoc HY.out hEb)
          obtain ⟨X8, hX8⟩ : ∃ X, X = X7.setCell ⟨L + 1, 0, none⟩ (.int .i64 d') := ⟨_, rfl⟩
          rw [← hX8] at hD8
          have HX8 := hid hX8; have HD8 := hid hD8; have HJ7 := hid (show j7 ≤ j + 6 by have := HJ3.out; omega); have HE := hid hEb
          clear hS hO hj hj2 hD7 hD8 rr hX8 HP6 HD6 hd' hE e0 e1 hEb HJ3
          go_upto_region 19 with fail
          rw [← HX8.out]
          clear r0 r1 f0 f1 wd HX8 we
          obtain ⟨js', hjs⟩ : ∃ q, js ++ [(d, y)] = q := ⟨_, rfl⟩
          have HK2 := hid (show js'.length + (k - 1) = K by rw [← hjs]; simp; have := HK.out; omega)
          rw [hjs] at HD8 HLP2
          clear hjs HLP1 HRX HRX2 HVX RX4 HD4
          refine wp_region_held (S := fun W' : World => Row W' R 27 [.int .i64 lo, .int .i64 hi']) (by kernel_rfl) ?_
          change wpAnyH _ _ _ _ _ _ _ _ (World.drew _)
          obtain ⟨X9, hX9⟩ : ∃ X, X = World.drew X8 := ⟨_, rfl⟩
          have HD9 := hid (show DS g R (R + 2) (L + 1) L lo hi' [10, 10, 10] zs d' u js' v' j7 w X9 from by
            obtain ⟨h1, h2, h3, h4, h5, h6, h7, h8⟩ := HD8.out
            have bD : Below X8.heap.size X8 X9 := by rw [hX9]; exact (Below.refl _ _).drew
            have hg : g < X8.heap.size := by have := h2.lt; omega
            exact ⟨⟨h1.1, h1.2.1, h1.2.2.1, h1.2.2.2.1, h1.2.2.2.2.1, h1.2.2.2.2.2.1, h1.2.2.2.2.2.2.on bD h1.2.2.2.2.2.2.1⟩, h2.below bD h2.lt, h3.below bD h3.lt, h4.below bD h4.lt, h5.below bD hg, by rw [hX9]; exact h6, h7, by rw [hX9]; exact h8.drew⟩)
          rw [← hX9]
          clear hX9 HD8
          refine wpAnyH_takeD (some 56) (i := 0) (v := ?_) rfl rfl (by kernel_rfl) (by kernel_rfl) (by kernel_rfl) (fun _ _ _ h => h) (.inl ⟨by kernel_rfl, ?_⟩) HD9.out.fl ?_
          rotate_left
          · intro w' hw'; have e0 := Row.cell hw' 0; simp only [List.getElem?_cons_zero, List.getElem?_cons_succ] at e0; clear hw'; go_simp; try with_reducible rfl
          try simp only [Act.put, List.setIfInBounds_toArray, List.set_cons_zero, List.set_cons_succ]
          refine wpAnyH_takeD (some 58) (i := 2) (v := ?_) rfl rfl (by kernel_rfl) (by kernel_rfl) (by kernel_rfl) (fun _ _ _ h => h) (.inl ⟨by kernel_rfl, ?_⟩) HD9.out.fl ?_
          rotate_left
          · intro w' hw'; go_simp; try with_reducible rfl
          try simp only [Act.put, List.setIfInBounds_toArray, List.set_cons_zero, List.set_cons_succ]
          refine wpAnyH_takeD (some 59) (i := 3) (v := ?_) rfl rfl (by kernel_rfl) (by kernel_rfl) (by kernel_rfl) (fun _ _ _ h => h) (.inl ⟨by kernel_rfl, ?_⟩) HD9.out.fl ?_
          rotate_left
          · intro w' hw'; have e0 := Row.cell hw' 0; simp only [List.getElem?_cons_zero, List.getElem?_cons_succ] at e0; clear hw'; go_simp; try with_reducible rfl
          try simp only [Act.put, List.setIfInBounds_toArray, List.set_cons_zero, List.set_cons_succ]
          refine wpAnyH_takeD (some 60) (i := 4) (v := ?_) rfl rfl (by kernel_rfl) (by kernel_rfl) (by kernel_rfl) (fun _ _ _ h => h) (.inl ⟨by kernel_rfl, ?_⟩) HD9.out.fl ?_
          rotate_left
          · intro w' hw'; have e0 := Row.cell hw' 0; simp only [List.getElem?_cons_zero, List.getElem?_cons_succ] at e0; clear hw'; go_simp; try with_reducible rfl
          try simp only [Act.put, List.setIfInBounds_toArray, List.set_cons_zero, List.set_cons_succ]
          refine wpAnyH_takeD (some 61) (i := 5) (v := ?_) rfl rfl (by kernel_rfl) (by kernel_rfl) (by kernel_rfl) (fun _ _ _ h => h) (.inl ⟨by kernel_rfl, ?_⟩) HD9.out.fl ?_
          rotate_left
          · intro w' hw'; go_simp; try with_reducible rfl
          try simp only [Act.put, List.setIfInBounds_toArray, List.set_cons_zero, List.set_cons_succ]
          refine wpAnyH_takeD (some 66) (i := 10) (v := ?_) rfl rfl (by kernel_rfl) (by kernel_rfl) (by kernel_rfl) (fun _ _ _ h => h) (.inl ⟨by kernel_rfl, ?_⟩) HD9.out.fl ?_
          rotate_left
          · intro w' hw'; go_simp; try with_reducible rfl
          try simp only [Act.put, List.setIfInBounds_toArray, List.set_cons_zero, List.set_cons_succ]
          refine wpAnyH_all (rs := [1, 6]) (by kernel_rfl) (by simp) ?_
          intro i hi; simp only [List.mem_cons, List.not_mem_nil, or_false] at hi
          rcases hi with rfl | rfl
          · refine wpOp_step rfl (fun K hK => ?_)
            have cw : X9.cell? ⟨L + 1, 1, none⟩ = some (.int .i64 u) := HD9.out.rr.cell 1
            go_simp
            refine hK _ _ ⟨HD9.out.fl, ?_⟩
            try simp only [Act.put, List.setIfInBounds_toArray, List.set_cons_zero, List.set_cons_succ]
            clear cw
            clear hK K
            refine wpAnyH_all (rs := [6]) (by kernel_rfl) (by simp) ?_
            intro i hi; simp only [List.mem_cons, List.not_mem_nil, or_false] at hi
            subst hi
            refine wpOp_step rfl (fun K hK => ?_)
            go_simp
            with_reducible refine (pick_any g j7 zs 12 X9 HD9.out.src (by have := HJ7.out; have := HJK.out; omega) (by omega)).mono ?_
            rintro e X10 ⟨p, j8, p0, p1, rfl, hj, hj2, hS, hO⟩
            replace HD9 := hid (HD9.out.only hO hS)
            have HPB := hid (show 0 ≤ p ∧ p ≤ 11 by omega)
            obtain ⟨Q, hQ⟩ : ∃ q, lo + p = q := ⟨_, rfl⟩
            have wp' : IntKind.i64.wrap (lo + p) = Q := (IntWalk.i64_in _ (by have := HLO.out; omega)).trans hQ
            have qb : 0 ≤ Q ∧ Q ≤ 1011 := by have := HLO.out; omega
            have m0 : 0 ≤ E * Q := Int.mul_nonneg (by have := HE.out; omega) qb.1
            have m1 : E * Q ≤ 4 * 1011 := Int.mul_le_mul HE.out.2 qb.2 qb.1 (by omega)
            obtain ⟨M, hM⟩ : ∃ q, E * Q = q := ⟨_, rfl⟩
            have wm : IntKind.i64.wrap (E * Q) = M := (IntWalk.i64_in _ (by omega)).trans hM
            rw [hM] at m0 m1
            obtain ⟨A, hA⟩ : ∃ q, u + M = q := ⟨_, rfl⟩
            have wu : IntKind.i64.wrap (u + M) = A := (IntWalk.i64_in _ (by have := HU.out; omega)).trans hA
            have HAB := hid (show 0 ≤ A ∧ A ≤ 10000 by have := HU.out; omega)
            have HJ8 := hid (show j8 ≤ j + 8 by have := HJ7.out; omega)
            clear hS hO hj hj2 p0 p1 qb m0 m1 hQ hM hA
            refine hK _ _ ⟨HD9.out.fl, ?_⟩
            try simp only [Act.put, List.setIfInBounds_toArray, List.set_cons_zero, List.set_cons_succ]
            clear hK K
            refine wpAnyH_takeD (some 63) (i := 7) (v := ?_) rfl rfl (by kernel_rfl) (by kernel_rfl) (by kernel_rfl) (fun _ _ _ h => h) (.inl ⟨by kernel_rfl, ?_⟩) HD9.out.fl ?_
            rotate_left
            · intro w' hw'; go_simp; try with_reducible rfl
            try simp only [Act.put, List.setIfInBounds_toArray, List.set_cons_zero, List.set_cons_succ]
            refine wpAnyH_takeD (some 64) (i := 8) (v := ?_) rfl rfl (by kernel_rfl) (by kernel_rfl) (by kernel_rfl) (fun _ _ _ h => h) (.inl ⟨by kernel_rfl, ?_⟩) HD9.out.fl ?_
            rotate_left
            · intro w' hw'; go_simp; try with_reducible rfl
            try simp only [Act.put, List.setIfInBounds_toArray, List.set_cons_zero, List.set_cons_succ]
            refine wpAnyH_takeD (some 65) (i := 9) (v := ?_) rfl rfl (by kernel_rfl) (by kernel_rfl) (by kernel_rfl) (fun _ _ _ h => h) (.inl ⟨by kernel_rfl, ?_⟩) HD9.out.fl ?_
            rotate_left
            · intro w' hw'; go_simp; try with_reducible rfl
            try simp only [Act.put, List.setIfInBounds_toArray, List.set_cons_zero, List.set_cons_succ]
            refine wpAnyH_all (rs := [11]) (by kernel_rfl) (by simp) ?_
            intro i hi; simp only [List.mem_cons, List.not_mem_nil, or_false] at hi
            subst hi
            refine wpOp_step rfl (fun K hK => ?_)
            go_simp
            with_reducible refine (l04Mod_any A 1000 (by have := HAB.out; omega) (by omega) X10).mono ?_
            rintro e X11 ⟨rfl, hw⟩
            subst hw
            refine hK _ _ ⟨HD9.out.fl, ?_⟩
            try simp only [Act.put, List.setIfInBounds_toArray, List.set_cons_zero, List.set_cons_succ]
            clear hK K
            refine wpAnyH_takeD (some 68) (i := 12) (v := ?_) rfl rfl (by kernel_rfl) (by kernel_rfl) (by kernel_rfl) (fun _ _ _ h => h) (.inl ⟨by kernel_rfl, ?_⟩) HD9.out.fl ?_
            rotate_left
            · intro w' hw'; have e0 := Row.cell hw' 0; simp only [List.getElem?_cons_zero, List.getElem?_cons_succ] at e0; clear hw'; go_simp; try with_reducible rfl
            try simp only [Act.put, List.setIfInBounds_toArray, List.set_cons_zero, List.set_cons_succ]
            refine wpAnyH_all (rs := [13]) (by kernel_rfl) (by simp) ?_
            intro i hi; simp only [List.mem_cons, List.not_mem_nil, or_false] at hi
            subst hi
            refine wpOp_step rfl (fun K hK => ?_)
            have fw : X10.frozen? ⟨L + 1, 1, none⟩ = false := HD9.out.rr.frozen 1
            have ow1 : X10.cell? ⟨L + 1, 1, none⟩ = some (.int .i64 u) := HD9.out.rr.cell 1
            go_simp
            refine hK _ _ ⟨((HD9.out.val (u' := A % 1000)).fl), ?_⟩
            try simp only [Act.put, List.setIfInBounds_toArray, List.set_cons_zero, List.set_cons_succ]
            clear fw ow1
            clear hK K
            refine wpAnyH_done (by kernel_rfl) ?_ _
            have hmb : 0 ≤ A % 1000 ∧ A % 1000 < 1000 := by omega
            have hD12 := HD9.out.val (u' := A % 1000)
            obtain ⟨u', hu'⟩ : ∃ q, A % 1000 = q := ⟨_, rfl⟩
            rw [hu'] at hmb hD12 ⊢
            obtain ⟨X12, hX12⟩ : ∃ X, X = X10.setCell ⟨L + 1, 1, none⟩ (.int .i64 u') := ⟨_, rfl⟩
            rw [← hX12] at hD12 ⊢
            have HO12 := hid (one_any g j8 zs 8 X12 hD12.src (by have := HJ8.out; have := HJK.out; omega) (by omega))
            have HD12 := hid hD12; have HU2 := hid hmb
            clear hX12 hD12 hmb hu' wp' wm wu HD9 HAB HPB
            go_wp2_with fail
            with_reducible refine HO12.out.mono ?_
            rintro e X13 ⟨b, j9, rfl, hj, hj2, hS, hO⟩
            have HD13 := hid (HD12.out.only hO hS)
            have HJ9 := hid (show j9 ≤ j + 10 by have := HJ8.out; omega)
            clear hS hO hj hj2 HO12 HD12 HJ8
            cases b with
            | true =>
              have HP14 := hid (pick_any g j9 zs 1000 X13 HD13.out.src (by have := HJ9.out; have := HJK.out; omega) (by omega))
              go_wp2_with fail
              with_reducible refine HP14.out.mono ?_
              rintro e X14 ⟨q, j10, q0, q1, rfl, hj, hj2, hS, hO⟩
              have hD14 := HD13.out.only hO hS
              have f1 := hD14.rr.frozen 1
              have c1 := hD14.rr.cell 1
              simp only [List.getElem?_cons_zero, List.getElem?_cons_succ] at c1
              have HD15 := hid (hD14.val (u' := q))
              have HUQ := hid (show 0 ≤ q ∧ q < 1000 by omega)
              have HJ10 := hid (show j10 ≤ j + 12 by have := HJ9.out; omega)
              clear hS hO hj hj2 hD14 q0 q1 HP14
              go_wp2_with fail
              go_roundw
              case rel => exact ⟨k - 1, j10, v', js', d', q, HK2.out, by have := HJ10.out; have := HJK.out; omega, by rw [show ((k - 1 : Nat) : Int) = (k : Int) - 1 by omega], rfl, HLP2.out, HUQ.out, HD15.out⟩
              case measure => simp [intOf]; omega
            | false =>
              go_wp2_with fail
              go_roundw
              case rel => exact ⟨k - 1, j9, v', js', d', u', HK2.out, by have := HJ9.out; have := HJK.out; omega, by rw [show ((k - 1 : Nat) : Int) = (k : Int) - 1 by omega], rfl, HLP2.out, HU2.out, HD13.out⟩
              case measure => simp [intOf]; omega
          · refine wpOp_step rfl (fun K hK => ?_)
            go_simp
            with_reducible refine (pick_any g j7 zs 12 X9 HD9.out.src (by have := HJ7.out; have := HJK.out; omega) (by omega)).mono ?_
            rintro e X10 ⟨p, j8, p0, p1, rfl, hj, hj2, hS, hO⟩
            replace HD9 := hid (HD9.out.only hO hS)
            have HPB := hid (show 0 ≤ p ∧ p ≤ 11 by omega)
            obtain ⟨Q, hQ⟩ : ∃ q, lo + p = q := ⟨_, rfl⟩
            have wp' : IntKind.i64.wrap (lo + p) = Q := (IntWalk.i64_in _ (by have := HLO.out; omega)).trans hQ
            have qb : 0 ≤ Q ∧ Q ≤ 1011 := by have := HLO.out; omega
            have m0 : 0 ≤ E * Q := Int.mul_nonneg (by have := HE.out; omega) qb.1
            have m1 : E * Q ≤ 4 * 1011 := Int.mul_le_mul HE.out.2 qb.2 qb.1 (by omega)
            obtain ⟨M, hM⟩ : ∃ q, E * Q = q := ⟨_, rfl⟩
            have wm : IntKind.i64.wrap (E * Q) = M := (IntWalk.i64_in _ (by omega)).trans hM
            rw [hM] at m0 m1
            obtain ⟨A, hA⟩ : ∃ q, u + M = q := ⟨_, rfl⟩
            have wu : IntKind.i64.wrap (u + M) = A := (IntWalk.i64_in _ (by have := HU.out; omega)).trans hA
            have HAB := hid (show 0 ≤ A ∧ A ≤ 10000 by have := HU.out; omega)
            have HJ8 := hid (show j8 ≤ j + 8 by have := HJ7.out; omega)
            clear hS hO hj hj2 p0 p1 qb m0 m1 hQ hM hA
            refine hK _ _ ⟨HD9.out.fl, ?_⟩
            try simp only [Act.put, List.setIfInBounds_toArray, List.set_cons_zero, List.set_cons_succ]
            clear hK K
            refine wpAnyH_takeD (some 63) (i := 7) (v := ?_) rfl rfl (by kernel_rfl) (by kernel_rfl) (by kernel_rfl) (fun _ _ _ h => h) (.inl ⟨by kernel_rfl, ?_⟩) HD9.out.fl ?_
            rotate_left
            · intro w' hw'; go_simp; try with_reducible rfl
            try simp only [Act.put, List.setIfInBounds_toArray, List.set_cons_zero, List.set_cons_succ]
            refine wpAnyH_takeD (some 64) (i := 8) (v := ?_) rfl rfl (by kernel_rfl) (by kernel_rfl) (by kernel_rfl) (fun _ _ _ h => h) (.inl ⟨by kernel_rfl, ?_⟩) HD9.out.fl ?_
            rotate_left
            · intro w' hw'; go_simp; try with_reducible rfl
            try simp only [Act.put, List.setIfInBounds_toArray, List.set_cons_zero, List.set_cons_succ]
            refine wpAnyH_all (rs := [1]) (by kernel_rfl) (by simp) ?_
            intro i hi; simp only [List.mem_cons, List.not_mem_nil, or_false] at hi
            subst hi
            refine wpOp_step rfl (fun K hK => ?_)
            have cw : X10.cell? ⟨L + 1, 1, none⟩ = some (.int .i64 u) := HD9.out.rr.cell 1
            go_simp
            refine hK _ _ ⟨HD9.out.fl, ?_⟩
            try simp only [Act.put, List.setIfInBounds_toArray, List.set_cons_zero, List.set_cons_succ]
            clear cw
            clear hK K
            refine wpAnyH_takeD (some 65) (i := 9) (v := ?_) rfl rfl (by kernel_rfl) (by kernel_rfl) (by kernel_rfl) (fun _ _ _ h => h) (.inl ⟨by kernel_rfl, ?_⟩) HD9.out.fl ?_
            rotate_left
            · intro w' hw'; go_simp; try with_reducible rfl
            try simp only [Act.put, List.setIfInBounds_toArray, List.set_cons_zero, List.set_cons_succ]
            refine wpAnyH_all (rs := [11]) (by kernel_rfl) (by simp) ?_
            intro i hi; simp only [List.mem_cons, List.not_mem_nil, or_false] at hi
            subst hi
            refine wpOp_step rfl (fun K hK => ?_)
            go_simp
            with_reducible refine (l04Mod_any A 1000 (by have := HAB.out; omega) (by omega) X10).mono ?_
            rintro e X11 ⟨rfl, hw⟩
            subst hw
            refine hK _ _ ⟨HD9.out.fl, ?_⟩
            try simp only [Act.put, List.setIfInBounds_toArray, List.set_cons_zero, List.set_cons_succ]
            clear hK K
            refine wpAnyH_takeD (some 68) (i := 12) (v := ?_) rfl rfl (by kernel_rfl) (by kernel_rfl) (by kernel_rfl) (fun _ _ _ h => h) (.inl ⟨by kernel_rfl, ?_⟩) HD9.out.fl ?_
            rotate_left
            · intro w' hw'; have e0 := Row.cell hw' 0; simp only [List.getElem?_cons_zero, List.getElem?_cons_succ] at e0; clear hw'; go_simp; try with_reducible rfl
            try simp only [Act.put, List.setIfInBounds_toArray, List.set_cons_zero, List.set_cons_succ]
            refine wpAnyH_all (rs := [13]) (by kernel_rfl) (by simp) ?_
            intro i hi; simp only [List.mem_cons, List.not_mem_nil, or_false] at hi
            subst hi
            refine wpOp_step rfl (fun K hK => ?_)
            have fw : X10.frozen? ⟨L + 1, 1, none⟩ = false := HD9.out.rr.frozen 1
            have ow1 : X10.cell? ⟨L + 1, 1, none⟩ = some (.int .i64 u) := HD9.out.rr.cell 1
            go_simp
            refine hK _ _ ⟨((HD9.out.val (u' := A % 1000)).fl), ?_⟩
            try simp only [Act.put, List.setIfInBounds_toArray, List.set_cons_zero, List.set_cons_succ]
            clear fw ow1
            clear hK K
            refine wpAnyH_done (by kernel_rfl) ?_ _
            have hmb : 0 ≤ A % 1000 ∧ A % 1000 < 1000 := by omega
            have hD12 := HD9.out.val (u' := A % 1000)
            obtain ⟨u', hu'⟩ : ∃ q, A % 1000 = q := ⟨_, rfl⟩
            rw [hu'] at hmb hD12 ⊢
            obtain ⟨X12, hX12⟩ : ∃ X, X = X10.setCell ⟨L + 1, 1, none⟩ (.int .i64 u') := ⟨_, rfl⟩
            rw [← hX12] at hD12 ⊢
            have HO12 := hid (one_any g j8 zs 8 X12 hD12.src (by have := HJ8.out; have := HJK.out; omega) (by omega))
            have HD12 := hid hD12; have HU2 := hid hmb
            clear hX12 hD12 hmb hu' wp' wm wu HD9 HAB HPB
            go_wp2_with fail
            with_reducible refine HO12.out.mono ?_
            rintro e X13 ⟨b, j9, rfl, hj, hj2, hS, hO⟩
            have HD13 := hid (HD12.out.only hO hS)
            have HJ9 := hid (show j9 ≤ j + 10 by have := HJ8.out; omega)
            clear hS hO hj hj2 HO12 HD12 HJ8
            cases b with
            | true =>
              have HP14 := hid (pick_any g j9 zs 1000 X13 HD13.out.src (by have := HJ9.out; have := HJK.out; omega) (by omega))
              go_wp2_with fail
              with_reducible refine HP14.out.mono ?_
              rintro e X14 ⟨q, j10, q0, q1, rfl, hj, hj2, hS, hO⟩
              have hD14 := HD13.out.only hO hS
              have f1 := hD14.rr.frozen 1
              have c1 := hD14.rr.cell 1
              simp only [List.getElem?_cons_zero, List.getElem?_cons_succ] at c1
              have HD15 := hid (hD14.val (u' := q))
              have HUQ := hid (show 0 ≤ q ∧ q < 1000 by omega)
              have HJ10 := hid (show j10 ≤ j + 12 by have := HJ9.out; omega)
              clear hS hO hj hj2 hD14 q0 q1 HP14
              go_wp2_with fail
              go_roundw
              case rel => exact ⟨k - 1, j10, v', js', d', q, HK2.out, by have := HJ10.out; have := HJK.out; omega, by rw [show ((k - 1 : Nat) : Int) = (k : Int) - 1 by omega], rfl, HLP2.out, HUQ.out, HD15.out⟩
              case measure => simp [intOf]; omega
            | false =>
              go_wp2_with fail
              go_roundw
              case rel => exact ⟨k - 1, j9, v', js', d', u', HK2.out, by have := HJ9.out; have := HJK.out; omega, by rw [show ((k - 1 : Nat) : Int) = (k : Int) - 1 by omega], rfl, HLP2.out, HU2.out, HD13.out⟩
              case measure => simp [intOf]; omega
        | false =>
          obtain ⟨X4, hX4⟩ : ∃ X, X = X2 := ⟨_, rfl⟩
          obtain ⟨j3, hj3⟩ : ∃ X, X = j2 := ⟨_, rfl⟩
          obtain ⟨y, hy⟩ : ∃ X, X = u := ⟨_, rfl⟩
          have HY := hid (show 0 ≤ y ∧ y < 1000 by rw [hy]; exact HU.out); have HJ3 := hid (show j3 ≤ j + 4 by have := HJ2.out; omega)
          have RX4 := hid (show Row X4 Rx 38 [.int .i64 d, .int .i64 y] by rw [hX4, hy]; exact RX2.out); have HD4 := hid (show DS g R (R + 2) (L + 1) L lo hi' [10, 10, 10] zs d u js v j3 w X4 by rw [hX4, hj3]; exact HD2.out)
          go_upto_region 16 with fail
          rw [← hX4]
          clear hX4 hj3 hy HD2 RX2 HJ2
          have hD4 := HD4.out
          have hrx := RX4.out
          have x0 := hrx.cell 0; have x1 := hrx.cell 1
          simp only [List.getElem?_cons_zero, List.getElem?_cons_succ] at x0 x1
          have hD5 := hD4.alloc (.cells #[.int .i64 d, .int .i64 y] 38)
          have news := Row.new X4 38 [.int .i64 d, .int .i64 y]
          have nc := hid (show ∀ j u, ([.int .i64 d, .int .i64 y] : List Value)[j]? = some u → (X4.alloc (.cells #[.int .i64 d, .int .i64 y] 38)).cell? ((⟨X4.heap.size, 0, none⟩ : Addr).add j) = some u from fun j u hj => by
            rw [show (⟨X4.heap.size, 0, none⟩ : Addr).add j = ⟨X4.heap.size, j, none⟩ from by unfold Addr.add; split <;> simp_all]
            exact (news.cell j).trans hj)
          have HONE := hid (show ∀ u ∈ ([.int .i64 d, .int .i64 y] : List Value), u.oneCell' = true from by intro u hu; simp at hu; rcases hu with rfl | rfl <;> rfl)
          have HO5 := hid (show (X4.alloc (.cells #[.int .i64 d, .int .i64 y] 38)).ownsRow L 38 2 v js.length (tvals js) from hD5.ow)
          have HLN := hid (show js.length ≤ 8 by have := HK.out; have := KB.out; omega)
          have HBW := hid (show L ≤ (X4.alloc (.cells #[.int .i64 d, .int .i64 y] 38)).heap.size by have := hD5.rr.lt; omega)
          have HD5 := hid hD5
          clear hD4 hrx hD5 news
          go_wp2_with (at_builtin; refine wpList_append_own_at _ rfl _ _ 25 rfl L 38 i0 (.agg #[.int .i64 0, .int .i64 0]) 2 16 Try.underlying25 hi0 iz0 iz1 iz2 rfl (by decide) _ _ _ rfl HO5.out ⟨X4.heap.size, 0, none⟩ 1 1 ([.int .i64 d, .int .i64 y] : List Value) rfl rfl nc.out HONE.out (by have := HLN.out; unfold maxLen; omega) (by have := HLN.out; omega) HBW.out ?_; rintro v' X6 hown' hgrow - hblk; have OWN := hid hown'; have GRW := hid hgrow; have BLK := hid hblk; clear hown' hgrow hblk)
          have OW := OWN.out
          rw [← tvals_snocG js d y, show js.length + 1 = (js ++ [(d, y)]).length by simp] at OW
          have hD6 := HD5.out.app GRW.out OW BLK.out
          have HD6 := hid hD6
          have HP6 := hid (pick_any g j3 zs 4 X6 hD6.src (by have := HJ3.out; have := HJK.out; omega) (by omega))
          clear OW hD6 x0 x1 OWN GRW BLK HBW HONE HO5 HD5 nc
          go_wp2_with fail
          with_reducible refine HP6.out.mono ?_
          rintro e X7 ⟨e4, j7, e0, e1, rfl, hj, hj2, hS, hO⟩
          obtain ⟨E, hE⟩ : ∃ E, 1 + e4 = E := ⟨_, rfl⟩
          have we : IntKind.i64.wrap (1 + e4) = E := (IntWalk.i64_in _ (by omega)).trans hE
          have hEb : 1 ≤ E ∧ E ≤ 4 := by omega
          have hD7 := HD6.out.only hO hS
          have rr := hD7.rr
          have r0 := rr.cell 0; have r1 := rr.cell 1; have f0 := rr.frozen 0; have f1 := rr.frozen 1
          simp only [List.getElem?_cons_zero, List.getElem?_cons_succ] at r0 r1
          obtain ⟨d', hd'⟩ : ∃ q, d + E = q := ⟨_, rfl⟩
          have wd : IntKind.i64.wrap (d + E) = d' := by rw [IntWalk.i64_in _ (by have := HDD.out; omega)]; exact hd'
          have hD8 := hD7.day (d' := d')
          have HLP2 := hid (show LogP 1000 (js ++ [(d, y)]) d' by rw [← hd']; exact HLP1.out.snoc HY.out hEb)
          obtain ⟨X8, hX8⟩ : ∃ X, X = X7.setCell ⟨L + 1, 0, none⟩ (.int .i64 d') := ⟨_, rfl⟩
          rw [← hX8] at hD8
          have HX8 := hid hX8; have HD8 := hid hD8; have HJ7 := hid (show j7 ≤ j + 6 by have := HJ3.out; omega); have HE := hid hEb
          clear hS hO hj hj2 hD7 hD8 rr hX8 HP6 HD6 hd' hE e0 e1 hEb HJ3
          go_upto_region 19 with fail
          rw [← HX8.out]
          clear r0 r1 f0 f1 wd HX8 we
          obtain ⟨js', hjs⟩ : ∃ q, js ++ [(d, y)] = q := ⟨_, rfl⟩
          have HK2 := hid (show js'.length + (k - 1) = K by rw [← hjs]; simp; have := HK.out; omega)
          rw [hjs] at HD8 HLP2
          clear hjs HLP1 HRX HRX2 HVX RX4 HD4
          refine wp_region_held (S := fun W' : World => Row W' R 27 [.int .i64 lo, .int .i64 hi']) (by kernel_rfl) ?_
          change wpAnyH _ _ _ _ _ _ _ _ (World.drew _)
          obtain ⟨X9, hX9⟩ : ∃ X, X = World.drew X8 := ⟨_, rfl⟩
          have HD9 := hid (show DS g R (R + 2) (L + 1) L lo hi' [10, 10, 10] zs d' u js' v' j7 w X9 from by
            obtain ⟨h1, h2, h3, h4, h5, h6, h7, h8⟩ := HD8.out
            have bD : Below X8.heap.size X8 X9 := by rw [hX9]; exact (Below.refl _ _).drew
            have hg : g < X8.heap.size := by have := h2.lt; omega
            exact ⟨⟨h1.1, h1.2.1, h1.2.2.1, h1.2.2.2.1, h1.2.2.2.2.1, h1.2.2.2.2.2.1, h1.2.2.2.2.2.2.on bD h1.2.2.2.2.2.2.1⟩, h2.below bD h2.lt, h3.below bD h3.lt, h4.below bD h4.lt, h5.below bD hg, by rw [hX9]; exact h6, h7, by rw [hX9]; exact h8.drew⟩)
          rw [← hX9]
          clear hX9 HD8
          refine wpAnyH_takeD (some 56) (i := 0) (v := ?_) rfl rfl (by kernel_rfl) (by kernel_rfl) (by kernel_rfl) (fun _ _ _ h => h) (.inl ⟨by kernel_rfl, ?_⟩) HD9.out.fl ?_
          rotate_left
          · intro w' hw'; have e0 := Row.cell hw' 0; simp only [List.getElem?_cons_zero, List.getElem?_cons_succ] at e0; clear hw'; go_simp; try with_reducible rfl
          try simp only [Act.put, List.setIfInBounds_toArray, List.set_cons_zero, List.set_cons_succ]
          refine wpAnyH_takeD (some 58) (i := 2) (v := ?_) rfl rfl (by kernel_rfl) (by kernel_rfl) (by kernel_rfl) (fun _ _ _ h => h) (.inl ⟨by kernel_rfl, ?_⟩) HD9.out.fl ?_
          rotate_left
          · intro w' hw'; go_simp; try with_reducible rfl
          try simp only [Act.put, List.setIfInBounds_toArray, List.set_cons_zero, List.set_cons_succ]
          refine wpAnyH_takeD (some 59) (i := 3) (v := ?_) rfl rfl (by kernel_rfl) (by kernel_rfl) (by kernel_rfl) (fun _ _ _ h => h) (.inl ⟨by kernel_rfl, ?_⟩) HD9.out.fl ?_
          rotate_left
          · intro w' hw'; have e0 := Row.cell hw' 0; simp only [List.getElem?_cons_zero, List.getElem?_cons_succ] at e0; clear hw'; go_simp; try with_reducible rfl
          try simp only [Act.put, List.setIfInBounds_toArray, List.set_cons_zero, List.set_cons_succ]
          refine wpAnyH_takeD (some 60) (i := 4) (v := ?_) rfl rfl (by kernel_rfl) (by kernel_rfl) (by kernel_rfl) (fun _ _ _ h => h) (.inl ⟨by kernel_rfl, ?_⟩) HD9.out.fl ?_
          rotate_left
          · intro w' hw'; have e0 := Row.cell hw' 0; simp only [List.getElem?_cons_zero, List.getElem?_cons_succ] at e0; clear hw'; go_simp; try with_reducible rfl
          try simp only [Act.put, List.setIfInBounds_toArray, List.set_cons_zero, List.set_cons_succ]
          refine wpAnyH_takeD (some 61) (i := 5) (v := ?_) rfl rfl (by kernel_rfl) (by kernel_rfl) (by kernel_rfl) (fun _ _ _ h => h) (.inl ⟨by kernel_rfl, ?_⟩) HD9.out.fl ?_
          rotate_left
          · intro w' hw'; go_simp; try with_reducible rfl
          try simp only [Act.put, List.setIfInBounds_toArray, List.set_cons_zero, List.set_cons_succ]
          refine wpAnyH_takeD (some 66) (i := 10) (v := ?_) rfl rfl (by kernel_rfl) (by kernel_rfl) (by kernel_rfl) (fun _ _ _ h => h) (.inl ⟨by kernel_rfl, ?_⟩) HD9.out.fl ?_
          rotate_left
          · intro w' hw'; go_simp; try with_reducible rfl
          try simp only [Act.put, List.setIfInBounds_toArray, List.set_cons_zero, List.set_cons_succ]
          refine wpAnyH_all (rs := [1, 6]) (by kernel_rfl) (by simp) ?_
          intro i hi; simp only [List.mem_cons, List.not_mem_nil, or_false] at hi
          rcases hi with rfl | rfl
          · refine wpOp_step rfl (fun K hK => ?_)
            have cw : X9.cell? ⟨L + 1, 1, none⟩ = some (.int .i64 u) := HD9.out.rr.cell 1
            go_simp
            refine hK _ _ ⟨HD9.out.fl, ?_⟩
            try simp only [Act.put, List.setIfInBounds_toArray, List.set_cons_zero, List.set_cons_succ]
            clear cw
            clear hK K
            refine wpAnyH_all (rs := [6]) (by kernel_rfl) (by simp) ?_
            intro i hi; simp only [List.mem_cons, List.not_mem_nil, or_false] at hi
            subst hi
            refine wpOp_step rfl (fun K hK => ?_)
            go_simp
            with_reducible refine (pick_any g j7 zs 12 X9 HD9.out.src (by have := HJ7.out; have := HJK.out; omega) (by omega)).mono ?_
            rintro e X10 ⟨p, j8, p0, p1, rfl, hj, hj2, hS, hO⟩
            replace HD9 := hid (HD9.out.only hO hS)
            have HPB := hid (show 0 ≤ p ∧ p ≤ 11 by omega)
            obtain ⟨Q, hQ⟩ : ∃ q, lo + p = q := ⟨_, rfl⟩
            have wp' : IntKind.i64.wrap (lo + p) = Q := (IntWalk.i64_in _ (by have := HLO.out; omega)).trans hQ
            have qb : 0 ≤ Q ∧ Q ≤ 1011 := by have := HLO.out; omega
            have m0 : 0 ≤ E * Q := Int.mul_nonneg (by have := HE.out; omega) qb.1
            have m1 : E * Q ≤ 4 * 1011 := Int.mul_le_mul HE.out.2 qb.2 qb.1 (by omega)
            obtain ⟨M, hM⟩ : ∃ q, E * Q = q := ⟨_, rfl⟩
            have wm : IntKind.i64.wrap (E * Q) = M := (IntWalk.i64_in _ (by omega)).trans hM
            rw [hM] at m0 m1
            obtain ⟨A, hA⟩ : ∃ q, u + M = q := ⟨_, rfl⟩
            have wu : IntKind.i64.wrap (u + M) = A := (IntWalk.i64_in _ (by have := HU.out; omega)).trans hA
            have HAB := hid (show 0 ≤ A ∧ A ≤ 10000 by have := HU.out; omega)
            have HJ8 := hid (show j8 ≤ j + 8 by have := HJ7.out; omega)
            clear hS hO hj hj2 p0 p1 qb m0 m1 hQ hM hA
            refine hK _ _ ⟨HD9.out.fl, ?_⟩
            try simp only [Act.put, List.setIfInBounds_toArray, List.set_cons_zero, List.set_cons_succ]
            clear hK K
            refine wpAnyH_takeD (some 63) (i := 7) (v := ?_) rfl rfl (by kernel_rfl) (by kernel_rfl) (by kernel_rfl) (fun _ _ _ h => h) (.inl ⟨by kernel_rfl, ?_⟩) HD9.out.fl ?_
            rotate_left
            · intro w' hw'; go_simp; try with_reducible rfl
            try simp only [Act.put, List.setIfInBounds_toArray, List.set_cons_zero, List.set_cons_succ]
            refine wpAnyH_takeD (some 64) (i := 8) (v := ?_) rfl rfl (by kernel_rfl) (by kernel_rfl) (by kernel_rfl) (fun _ _ _ h => h) (.inl ⟨by kernel_rfl, ?_⟩) HD9.out.fl ?_
            rotate_left
            · intro w' hw'; go_simp; try with_reducible rfl
            try simp only [Act.put, List.setIfInBounds_toArray, List.set_cons_zero, List.set_cons_succ]
            refine wpAnyH_takeD (some 65) (i := 9) (v := ?_) rfl rfl (by kernel_rfl) (by kernel_rfl) (by kernel_rfl) (fun _ _ _ h => h) (.inl ⟨by kernel_rfl, ?_⟩) HD9.out.fl ?_
            rotate_left
            · intro w' hw'; go_simp; try with_reducible rfl
            try simp only [Act.put, List.setIfInBounds_toArray, List.set_cons_zero, List.set_cons_succ]
            refine wpAnyH_all (rs := [11]) (by kernel_rfl) (by simp) ?_
            intro i hi; simp only [List.mem_cons, List.not_mem_nil, or_false] at hi
            subst hi
            refine wpOp_step rfl (fun K hK => ?_)
            go_simp
            with_reducible refine (l04Mod_any A 1000 (by have := HAB.out; omega) (by omega) X10).mono ?_
            rintro e X11 ⟨rfl, hw⟩
            subst hw
            refine hK _ _ ⟨HD9.out.fl, ?_⟩
            try simp only [Act.put, List.setIfInBounds_toArray, List.set_cons_zero, List.set_cons_succ]
            clear hK K
            refine wpAnyH_takeD (some 68) (i := 12) (v := ?_) rfl rfl (by kernel_rfl) (by kernel_rfl) (by kernel_rfl) (fun _ _ _ h => h) (.inl ⟨by kernel_rfl, ?_⟩) HD9.out.fl ?_
            rotate_left
            · intro w' hw'; have e0 := Row.cell hw' 0; simp only [List.getElem?_cons_zero, List.getElem?_cons_succ] at e0; clear hw'; go_simp; try with_reducible rfl
            try simp only [Act.put, List.setIfInBounds_toArray, List.set_cons_zero, List.set_cons_succ]
            refine wpAnyH_all (rs := [13]) (by kernel_rfl) (by simp) ?_
            intro i hi; simp only [List.mem_cons, List.not_mem_nil, or_false] at hi
            subst hi
            refine wpOp_step rfl (fun K hK => ?_)
            have fw : X10.frozen? ⟨L + 1, 1, none⟩ = false := HD9.out.rr.frozen 1
            have ow1 : X10.cell? ⟨L + 1, 1, none⟩ = some (.int .i64 u) := HD9.out.rr.cell 1
            go_simp
            refine hK _ _ ⟨((HD9.out.val (u' := A % 1000)).fl), ?_⟩
            try simp only [Act.put, List.setIfInBounds_toArray, List.set_cons_zero, List.set_cons_succ]
            clear fw ow1
            clear hK K
            refine wpAnyH_done (by kernel_rfl) ?_ _
            have hmb : 0 ≤ A % 1000 ∧ A % 1000 < 1000 := by omega
            have hD12 := HD9.out.val (u' := A % 1000)
            obtain ⟨u', hu'⟩ : ∃ q, A % 1000 = q := ⟨_, rfl⟩
            rw [hu'] at hmb hD12 ⊢
            obtain ⟨X12, hX12⟩ : ∃ X, X = X10.setCell ⟨L + 1, 1, none⟩ (.int .i64 u') := ⟨_, rfl⟩
            rw [← hX12] at hD12 ⊢
            have HO12 := hid (one_any g j8 zs 8 X12 hD12.src (by have := HJ8.out; have := HJK.out; omega) (by omega))
            have HD12 := hid hD12; have HU2 := hid hmb
            clear hX12 hD12 hmb hu' wp' wm wu HD9 HAB HPB
            go_wp2_with fail
            with_reducible refine HO12.out.mono ?_
            rintro e X13 ⟨b, j9, rfl, hj, hj2, hS, hO⟩
            have HD13 := hid (HD12.out.only hO hS)
            have HJ9 := hid (show j9 ≤ j + 10 by have := HJ8.out; omega)
            clear hS hO hj hj2 HO12 HD12 HJ8
            cases b with
            | true =>
              have HP14 := hid (pick_any g j9 zs 1000 X13 HD13.out.src (by have := HJ9.out; have := HJK.out; omega) (by omega))
              go_wp2_with fail
              with_reducible refine HP14.out.mono ?_
              rintro e X14 ⟨q, j10, q0, q1, rfl, hj, hj2, hS, hO⟩
              have hD14 := HD13.out.only hO hS
              have f1 := hD14.rr.frozen 1
              have c1 := hD14.rr.cell 1
              simp only [List.getElem?_cons_zero, List.getElem?_cons_succ] at c1
              have HD15 := hid (hD14.val (u' := q))
              have HUQ := hid (show 0 ≤ q ∧ q < 1000 by omega)
              have HJ10 := hid (show j10 ≤ j + 12 by have := HJ9.out; omega)
              clear hS hO hj hj2 hD14 q0 q1 HP14
              go_wp2_with fail
              go_roundw
              case rel => exact ⟨k - 1, j10, v', js', d', q, HK2.out, by have := HJ10.out; have := HJK.out; omega, by rw [show ((k - 1 : Nat) : Int) = (k : Int) - 1 by omega], rfl, HLP2.out, HUQ.out, HD15.out⟩
              case measure => simp [intOf]; omega
            | false =>
              go_wp2_with fail
              go_roundw
              case rel => exact ⟨k - 1, j9, v', js', d', u', HK2.out, by have := HJ9.out; have := HJK.out; omega, by rw [show ((k - 1 : Nat) : Int) = (k : Int) - 1 by omega], rfl, HLP2.out, HU2.out, HD13.out⟩
              case measure => simp [intOf]; omega
          · refine wpOp_step rfl (fun K hK => ?_)
            go_simp
            with_reducible refine (pick_any g j7 zs 12 X9 HD9.out.src (by have := HJ7.out; have := HJK.out; omega) (by omega)).mono ?_
            rintro e X10 ⟨p, j8, p0, p1, rfl, hj, hj2, hS, hO⟩
            replace HD9 := hid (HD9.out.only hO hS)
            have HPB := hid (show 0 ≤ p ∧ p ≤ 11 by omega)
            obtain ⟨Q, hQ⟩ : ∃ q, lo + p = q := ⟨_, rfl⟩
            have wp' : IntKind.i64.wrap (lo + p) = Q := (IntWalk.i64_in _ (by have := HLO.out; omega)).trans hQ
            have qb : 0 ≤ Q ∧ Q ≤ 1011 := by have := HLO.out; omega
            have m0 : 0 ≤ E * Q := Int.mul_nonneg (by have := HE.out; omega) qb.1
            have m1 : E * Q ≤ 4 * 1011 := Int.mul_le_mul HE.out.2 qb.2 qb.1 (by omega)
            obtain ⟨M, hM⟩ : ∃ q, E * Q = q := ⟨_, rfl⟩
            have wm : IntKind.i64.wrap (E * Q) = M := (IntWalk.i64_in _ (by omega)).trans hM
            rw [hM] at m0 m1
            obtain ⟨A, hA⟩ : ∃ q, u + M = q := ⟨_, rfl⟩
            have wu : IntKind.i64.wrap (u + M) = A := (IntWalk.i64_in _ (by have := HU.out; omega)).trans hA
            have HAB := hid (show 0 ≤ A ∧ A ≤ 10000 by have := HU.out; omega)
            have HJ8 := hid (show j8 ≤ j + 8 by have := HJ7.out; omega)
            clear hS hO hj hj2 p0 p1 qb m0 m1 hQ hM hA
            refine hK _ _ ⟨HD9.out.fl, ?_⟩
            try simp only [Act.put, List.setIfInBounds_toArray, List.set_cons_zero, List.set_cons_succ]
            clear hK K
            refine wpAnyH_takeD (some 63) (i := 7) (v := ?_) rfl rfl (by kernel_rfl) (by kernel_rfl) (by kernel_rfl) (fun _ _ _ h => h) (.inl ⟨by kernel_rfl, ?_⟩) HD9.out.fl ?_
            rotate_left
            · intro w' hw'; go_simp; try with_reducible rfl
            try simp only [Act.put, List.setIfInBounds_toArray, List.set_cons_zero, List.set_cons_succ]
            refine wpAnyH_takeD (some 64) (i := 8) (v := ?_) rfl rfl (by kernel_rfl) (by kernel_rfl) (by kernel_rfl) (fun _ _ _ h => h) (.inl ⟨by kernel_rfl, ?_⟩) HD9.out.fl ?_
            rotate_left
            · intro w' hw'; go_simp; try with_reducible rfl
            try simp only [Act.put, List.setIfInBounds_toArray, List.set_cons_zero, List.set_cons_succ]
            refine wpAnyH_all (rs := [1]) (by kernel_rfl) (by simp) ?_
            intro i hi; simp only [List.mem_cons, List.not_mem_nil, or_false] at hi
            subst hi
            refine wpOp_step rfl (fun K hK => ?_)
            have cw : X10.cell? ⟨L + 1, 1, none⟩ = some (.int .i64 u) := HD9.out.rr.cell 1
            go_simp
            refine hK _ _ ⟨HD9.out.fl, ?_⟩
            try simp only [Act.put, List.setIfInBounds_toArray, List.set_cons_zero, List.set_cons_succ]
            clear cw
            clear hK K
            refine wpAnyH_takeD (some 65) (i := 9) (v := ?_) rfl rfl (by kernel_rfl) (by kernel_rfl) (by kernel_rfl) (fun _ _ _ h => h) (.inl ⟨by kernel_rfl, ?_⟩) HD9.out.fl ?_
            rotate_left
            · intro w' hw'; go_simp; try with_reducible rfl
            try simp only [Act.put, List.setIfInBounds_toArray, List.set_cons_zero, List.set_cons_succ]
            refine wpAnyH_all (rs := [11]) (by kernel_rfl) (by simp) ?_
            intro i hi; simp only [List.mem_cons, List.not_mem_nil, or_false] at hi
            subst hi
            refine wpOp_step rfl (fun K hK => ?_)
            go_simp
            with_reducible refine (l04Mod_any A 1000 (by have := HAB.out; omega) (by omega) X10).mono ?_
            rintro e X11 ⟨rfl, hw⟩
            subst hw
            refine hK _ _ ⟨HD9.out.fl, ?_⟩
            try simp only [Act.put, List.setIfInBounds_toArray, List.set_cons_zero, List.set_cons_succ]
            clear hK K
            refine wpAnyH_takeD (some 68) (i := 12) (v := ?_) rfl rfl (by kernel_rfl) (by kernel_rfl) (by kernel_rfl) (fun _ _ _ h => h) (.inl ⟨by kernel_rfl, ?_⟩) HD9.out.fl ?_
            rotate_left
            · intro w' hw'; have e0 := Row.cell hw' 0; simp only [List.getElem?_cons_zero, List.getElem?_cons_succ] at e0; clear hw'; go_simp; try with_reducible rfl
            try simp only [Act.put, List.setIfInBounds_toArray, List.set_cons_zero, List.set_cons_succ]
            refine wpAnyH_all (rs := [13]) (by kernel_rfl) (by simp) ?_
            intro i hi; simp only [List.mem_cons, List.not_mem_nil, or_false] at hi
            subst hi
            refine wpOp_step rfl (fun K hK => ?_)
            have fw : X10.frozen? ⟨L + 1, 1, none⟩ = false := HD9.out.rr.frozen 1
            have ow1 : X10.cell? ⟨L + 1, 1, none⟩ = some (.int .i64 u) := HD9.out.rr.cell 1
            go_simp
            refine hK _ _ ⟨((HD9.out.val (u' := A % 1000)).fl), ?_⟩
            try simp only [Act.put, List.setIfInBounds_toArray, List.set_cons_zero, List.set_cons_succ]
            clear fw ow1
            clear hK K
            refine wpAnyH_done (by kernel_rfl) ?_ _
            have hmb : 0 ≤ A % 1000 ∧ A % 1000 < 1000 := by omega
            have hD12 := HD9.out.val (u' := A % 1000)
            obtain ⟨u', hu'⟩ : ∃ q, A % 1000 = q := ⟨_, rfl⟩
            rw [hu'] at hmb hD12 ⊢
            obtain ⟨X12, hX12⟩ : ∃ X, X = X10.setCell ⟨L + 1, 1, none⟩ (.int .i64 u') := ⟨_, rfl⟩
            rw [← hX12] at hD12 ⊢
            have HO12 := hid (one_any g j8 zs 8 X12 hD12.src (by have := HJ8.out; have := HJK.out; omega) (by omega))
            have HD12 := hid hD12; have HU2 := hid hmb
            clear hX12 hD12 hmb hu' wp' wm wu HD9 HAB HPB
            go_wp2_with fail
            with_reducible refine HO12.out.mono ?_
            rintro e X13 ⟨b, j9, rfl, hj, hj2, hS, hO⟩
            have HD13 := hid (HD12.out.only hO hS)
            have HJ9 := hid (show j9 ≤ j + 10 by have := HJ8.out; omega)
            clear hS hO hj hj2 HO12 HD12 HJ8
            cases b with
            | true =>
              have HP14 := hid (pick_any g j9 zs 1000 X13 HD13.out.src (by have := HJ9.out; have := HJK.out; omega) (by omega))
              go_wp2_with fail
              with_reducible refine HP14.out.mono ?_
              rintro e X14 ⟨q, j10, q0, q1, rfl, hj, hj2, hS, hO⟩
              have hD14 := HD13.out.only hO hS
              have f1 := hD14.rr.frozen 1
              have c1 := hD14.rr.cell 1
              simp only [List.getElem?_cons_zero, List.getElem?_cons_succ] at c1
              have HD15 := hid (hD14.val (u' := q))
              have HUQ := hid (show 0 ≤ q ∧ q < 1000 by omega)
              have HJ10 := hid (show j10 ≤ j + 12 by have := HJ9.out; omega)
              clear hS hO hj hj2 hD14 q0 q1 HP14
              go_wp2_with fail
              go_roundw
              case rel => exact ⟨k - 1, j10, v', js', d', q, HK2.out, by have := HJ10.out; have := HJK.out; omega, by rw [show ((k - 1 : Nat) : Int) = (k : Int) - 1 by omega], rfl, HLP2.out, HUQ.out, HD15.out⟩
              case measure => simp [intOf]; omega
            | false =>
              go_wp2_with fail
              go_roundw
              case rel => exact ⟨k - 1, j9, v', js', d', u', HK2.out, by have := HJ9.out; have := HJK.out; omega, by rw [show ((k - 1 : Nat) : Int) = (k : Int) - 1 by omega], rfl, HLP2.out, HU2.out, HD13.out⟩
              case measure => simp [intOf]; omega
      · obtain rfl : k = 0 := by omega
        have HQ := hid (And.intro hk (And.intro hLP hD))
        clear hk hLP hD hjk hu hd0 hd9
        go_wp2_with fail
        refine bodyPost_ret (v := .tuple #[.slice (some ⟨R + 2, 0, none⟩) 3 3, v]) (by simp [results, Try.results17, go_sem]) rfl ?_
        obtain ⟨hk, hLP, hh⟩ := HQ.out
        have := hh.1
        exact ⟨[10, 10, 10], js, d, v, R + 2, L, rfl, .inl rfl, by have := KB.out; omega, by rw [wz]; exact hLP, hh.2.2.1, by omega, by omega, hh.2.2.2.2.2.1, hh.2.2.2.2.2.2.2, hh.1.2.2.2.2.2.2, hh.2.2.2.2.2.2.1.2⟩
  · subst hx
    have rB2 := Row.new w2 5 (([6, 4, 3] : List Int).map (Value.int .u8))
    have rR2 := rR.alloc (.cells #[.int .u8 6, .int .u8 4, .int .u8 3] 5)
    have a2 : Below w2.heap.size w2 (w2.alloc (.cells #[.int .u8 6, .int .u8 4, .int .u8 3] 5)) := (Below.refl _ _).alloc (Nat.le_refl _) _
    have b2 := bb.trans (a2.mono (by have := HGR.out; omega))
    have s3 : (w2.alloc (.cells #[.int .u8 6, .int .u8 4, .int .u8 3] 5)).heap.size = R + 3 := by simp [s2]
    have src2 := SRC.out.below a2 (by have := HGR.out; omega)
    obtain ⟨V2, hV2⟩ : ∃ X, X = w2.alloc (.cells #[.int .u8 6, .int .u8 4, .int .u8 3] 5) := ⟨_, rfl⟩
    replace rB2 : Row V2 (R + 2) 5 (([6, 4, 3] : List Int).map (Value.int .u8)) := by rw [hV2, ← s2]; exact rB2
    have OT := hid (show Oth g w V2 from by rw [hV2]; exact OT.out.on a2 (by omega))
    rw [← hV2] at rR2 b2 s3 src2
    have HV2 := hid hV2; have HS2 := hid s2
    clear s2 rR rB a2 hV2 bb SRC x0
    have st2 := stk_row (zs := [6, 4, 3]) rB2 (by decide) (by decide)
    have wz : szL [6, 4, 3] = 72 := by decide
    have HSZ := hid (l01Size_is (R + 2) 3 3 [6, 4, 3] rfl (by decide) V2 st2)
    rw [wz] at HSZ
    have rR3 := rR2.alloc (.cells #[] 38)
    have rB3 := rB2.alloc (.cells #[] 38)
    have b3 := b2.alloc (by have := HGR.out; omega) (.cells #[] 38)
    have src3 := src2.below ((Below.refl (g + 1) V2).alloc (by have := HGR.out; omega) (.cells #[] 38)) (by omega)
    obtain ⟨L, hL⟩ : ∃ L, V2.heap.size = L := ⟨_, rfl⟩
    have o3 : (V2.alloc (.cells #[] 38)).ownsRow L 38 2 (.slice (some ⟨V2.heap.size, 0, none⟩) 0 0) 0 [] := World.ownsRow_made _ _ 0 (by omega) (by decide) rfl
    have s4 : (V2.alloc (.cells #[] 38)).heap.size = L + 1 := by simp [hL]
    have hRL : R < L ∧ R + 2 < L := by omega
    rw [hL] at o3
    obtain ⟨V3, hV3⟩ : ∃ X, X = V2.alloc (.cells #[] 38) := ⟨_, rfl⟩
    have OT := hid (show Oth g w V3 from by rw [hV3]; exact OT.out.on ((Below.refl V2.heap.size V2).alloc (Nat.le_refl _) _) OT.out.1)
    rw [← hV3] at rR3 rB3 b3 src3 o3 s4
    have HP3 := hid (pick_any g j zs 5 V3 src3 (by have := J0.out; omega) (by omega))
    have HV3 := hid hV3; have HLL := hid hL; have RR3 := hid rR3; have RB3 := hid rB3; have B3 := hid b3; have O3 := hid o3; have S4 := hid s4; have HRL := hid hRL
    clear st2 rR2 rB2 b2 src2 rR3 rB3 b3 src3 o3 s4 hRL hL hV3 s3
    go_upto_region 7 with fail
    rw [← HV2.out, HS2.out]
    go_wp2_with fail
    with_reducible refine HSZ.out.mono ?_
    rintro e w3 ⟨rfl, hw⟩
    subst hw
    go_upto_region 9 with fail
    rw [← HV3.out, HLL.out]
    go_wp2_with fail
    with_reducible refine HP3.out.mono ?_
    rintro e w4 ⟨d0, j4, d00, d01, rfl, hj, hj2, hS, hO⟩
    have rR := hO.row RR3.out (by have := HGR.out; omega)
    have rB := hO.row RB3.out (by have := HGR.out; omega)
    have bb := B3.out.trans hO.2.2
    have ow := owns_only O3.out hO (by have := HGR.out; have := HRL.out; omega)
    have OT := hid (OT.out.only hO)
    have s5 : w4.heap.size = L + 1 := by rw [hO.1]; exact S4.out
    have HP4 := hid (pick_any g j4 zs 72 w4 hS (by have := J0.out; omega) (by omega))
    have RR3 := hid rR; have RB3 := hid rB; have B3 := hid bb; have O3 := hid ow; have S4 := hid s5; have J4 := hid (show j4 ≤ 104 by have := J0.out; omega)
    have D0 := hid (show 0 ≤ d0 ∧ d0 ≤ 4 by omega)
    clear hS hO hj hj2 d00 d01 rR rB bb ow s5 J0 HP3 HSZ
    go_wp2_with fail
    with_reducible refine HP4.out.mono ?_
    rintro e w5 ⟨u0, j5, u00, u01, rfl, hj, hj2, hS, hO⟩
    have rR := hO.row RR3.out (by have := HGR.out; omega)
    have rB := hO.row RB3.out (by have := HGR.out; omega)
    have bb := B3.out.trans hO.2.2
    have ow := owns_only O3.out hO (by have := HGR.out; have := HRL.out; omega)
    have OT := hid (OT.out.only hO)
    have s6 : w5.heap.size = L + 1 := by rw [hO.1]; exact S4.out
    have U0 := hid (show 0 ≤ u0 ∧ u0 < 72 by omega)
    have rr := Row.new w5 38 [.int .i64 d0, .int .i64 u0]
    have DS0 : DS g R (R + 2) (L + 1) L lo hi' [6, 4, 3] zs d0 u0 [] (.slice (some ⟨L, 0, none⟩) 0 0) j5 w (w5.alloc (.cells #[.int .i64 d0, .int .i64 u0] 38)) := by
      have h1 := HGR.out; have h2 := HRL.out
      have lt5 := rR.lt
      refine ⟨⟨h1, by omega, h2.1, h2.2, by omega, by have := HRW.out; omega, OT.out.on ((Below.refl w5.heap.size w5).alloc (Nat.le_refl _) _) OT.out.1⟩, rR.alloc _, rB.alloc _, ?_, hS.below ((Below.refl (g + 1) w5).alloc (by omega) _) (by omega), ow.alloc _, ?_, bb.alloc (by omega) _⟩
      · rw [← s6]; exact rr
      · exact ⟨fun k hk => by cases hk; show L ≠ L + 1; omega, by simp [Value.ownBlock]⟩
    obtain ⟨V5, hV5⟩ : ∃ X, X = w5.alloc (.cells #[.int .i64 d0, .int .i64 u0] 38) := ⟨_, rfl⟩
    rw [← hV5] at DS0
    have HP5 := hid (pick_any g j5 zs 9 V5 DS0.src (by have := J4.out; omega) (by omega))
    have HV5 := hid hV5; have HDS := hid DS0; have S6 := hid s6; have J5 := hid (show j5 ≤ 106 by have := J4.out; omega)
    clear hS hO hj hj2 u00 u01 rR rB bb ow s6 rr DS0 hV5 J4 HP4 RR3 RB3 B3 O3 S4
    go_upto_region 10 with fail
    rw [← HV5.out, S6.out]
    go_wp2_with fail
    with_reducible refine HP5.out.mono ?_
    rintro e w6 ⟨x, j6, x0, x1, rfl, hj, hj2, hS, hO⟩
    obtain ⟨K, rfl⟩ : ∃ K : Nat, x = K := ⟨x.toNat, by omega⟩
    have HDS6 := hid (HDS.out.only hO hS)
    have KB := hid (show K ≤ 8 by omega); have J6 := hid (show j6 ≤ 108 by have := J5.out; omega)
    have HLP := hid (LogP.nil 72 d0 D0.out)
    clear hS hO hj hj2 x0 x1 J5 HP5 HDS HV5
    go_wp2_with fail
    go_loopw [8, 10] (fun s8 s10 wr => ∃ (k j : Nat) (v : Value) (js : List (Int × Int)) (d u : Int), js.length + k = K ∧ j + 14 * k ≤ 230 ∧ s10 = .int .i64 k ∧ v = s8 ∧ LogP 72 js d ∧ (0 ≤ u ∧ u < 72) ∧ DS g R (R + 2) (L + 1) L lo hi' [6, 4, 3] zs d u js v j w wr) (fun _ s10 _ => (intOf s10).toNat)
    case atStart => exact ⟨K, j6, _, [], d0, u0, by simp, by have := J6.out; have := KB.out; omega, rfl, rfl, HLP.out, U0.out, HDS6.out⟩
    case round =>
      obtain ⟨k, j, v, js, d, u, hk, hjk, rfl, rfl, hLP, hu, hD⟩ := hrel
      have LPd := hLP
      obtain ⟨_, _, hd0, hd9⟩ := LPd
      by_cases hk0 : 0 < k
      · have k1 : (0 : Int) < (k : Int) := by omega
        have w1' : IntKind.i64.wrap ((k : Int) - 1) = (k : Int) - 1 := IntWalk.i64_in _ (by omega)
        have HJK := hid hjk; have HK := hid hk; have HLP1 := hid hLP; have HU := hid hu; have HDD := hid (show 0 ≤ d ∧ d ≤ 40 by have := KB.out; omega)
        have rr := hD.rr
        have x0 := rr.cell 0; have x1 := rr.cell 1
        simp only [List.getElem?_cons_zero, List.getElem?_cons_succ] at x0 x1
        have rx := Row.new wr 38 [.int .i64 d, .int .i64 u]
        have hD1 := hD.alloc (.cells #[.int .i64 d, .int .i64 u] 38)
        obtain ⟨Rx, hRx⟩ : ∃ q, wr.heap.size = q := ⟨_, rfl⟩
        have hRx2 : L + 1 < Rx := by rw [← hRx]; exact rr.lt
        have hvx : ∀ kk, v.ownBlock = some kk → kk ≠ Rx := fun kk e => by have := (hD.ow.lt kk e).2; omega
        rw [hRx] at rx
        obtain ⟨X1, hX1⟩ : ∃ X, X = wr.alloc (.cells #[.int .i64 d, .int .i64 u] 38) := ⟨_, rfl⟩
        rw [← hX1] at rx hD1
        have HO1 := hid (one_any g j zs 6 X1 hD1.src (by omega) (by omega))
        have HX1 := hid hX1; have HRX := hid hRx; have HD1 := hid hD1; have RX := hid rx; have HRX2 := hid hRx2; have HVX := hid hvx
        clear hjk hk hLP hu hD hd0 hd9 rr rx hD1 hRx hRx2 hvx hX1 hk0
        go_upto_region 14 with fail
        rw [← HX1.out, HRX.out]
        clear x0 x1
        go_wp2_with fail
        with_reducible refine HO1.out.mono ?_
        rintro e X2 ⟨b, j2, rfl, hj, hj2, hS, hO⟩
        have HD2 := hid (HD1.out.only hO hS)
        have RX2 := hid (hO.row RX.out (by have := HD1.out.1; have := HRX2.out; omega))
        have HJ2 := hid (show j2 ≤ j + 2 from hj2)
        clear hS hO hj hj2 HO1 HD1 RX HX1
        cases b with
        | true =>
          have HP3 := hid (pick_any g j2 zs 72 X2 HD2.out.src (by have := HJ2.out; have := HJK.out; omega) (by omega))
          go_wp2_with fail
          with_reducible refine HP3.out.mono ?_
          rintro e X3 ⟨y, j3, y0, y1, rfl, hj, hj2, hS, hO⟩
          have hrx := hO.row RX2.out (by have := HD2.out.1; have := HRX2.out; omega)
          have fx := hrx.frozen 1
          have e0 := hrx.cell 0; have e1 := hrx.cell 1
          simp only [List.getElem?_cons_zero, List.getElem?_cons_succ] at e0 e1
          have hrx4 := hrx.set 1 (.int .i64 y)
          simp only [List.set_cons_zero, List.set_cons_succ] at hrx4
          have hD4 := (HD2.out.only hO hS).far (p := Rx) (i := 1) (x := .int .i64 y) HRX2.out HVX.out
          obtain ⟨X4, hX4⟩ : ∃ X, X = X3.setCell ⟨Rx, 1, none⟩ (.int .i64 y) := ⟨_, rfl⟩
          rw [← hX4] at hrx4 hD4
          have HX4 := hid hX4; have HY := hid (show 0 ≤ y ∧ y < 72 by omega); have HJ3 := hid (show j3 ≤ j + 4 by have := HJ2.out; omega)
          have RX4 := hid hrx4; have HD4 := hid hD4
          clear hS hO hj hj2 y0 y1 hrx hrx4 hD4 hX4 HP3 HD2 RX2 HJ2
          go_upto_region 16 with fail
          rw [← HX4.out]
          clear e0 e1 fx HX4
          have hD4 := HD4.out
          have hrx := RX4.out
          have x0 := hrx.cell 0; have x1 := hrx.cell 1
          simp only [List.getElem?_cons_zero, List.getElem?_cons_succ] at x0 x1
          have hD5 := hD4.alloc (.cells #[.int .i64 d, .int .i64 y] 38)
          have news := Row.new X4 38 [.int .i64 d, .int .i64 y]
          have nc := hid (show ∀ j u, ([.int .i64 d, .int .i64 y] : List Value)[j]? = some u → (X4.alloc (.cells #[.int .i64 d, .int .i64 y] 38)).cell? ((⟨X4.heap.size, 0, none⟩ : Addr).add j) = some u from fun j u hj => by
            rw [show (⟨X4.heap.size, 0, none⟩ : Addr).add j = ⟨X4.heap.size, j, none⟩ from by unfold Addr.add; split <;> simp_all]
            exact (news.cell j).trans hj)
          have HONE := hid (show ∀ u ∈ ([.int .i64 d, .int .i64 y] : List Value), u.oneCell' = true from by intro u hu; simp at hu; rcases hu with rfl | rfl <;> rfl)
          have HO5 := hid (show (X4.alloc (.cells #[.int .i64 d, .int .i64 y] 38)).ownsRow L 38 2 v js.length (tvals js) from hD5.ow)
          have HLN := hid (show js.length ≤ 8 by have := HK.out; have := KB.out; omega)
          have HBW := hid (show L ≤ (X4.alloc (.cells #[.int .i64 d, .int .i64 y] 38)).heap.size by have := hD5.rr.lt; omega)
          have HD5 := hid hD5
          clear hD4 hrx hD5 news
          go_wp2_with (at_builtin; refine wpList_append_own_at _ rfl _ _ 25 rfl L 38 i0 (.agg #[.int .i64 0, .int .i64 0]) 2 16 Try.underlying25 hi0 iz0 iz1 iz2 rfl (by decide) _ _ _ rfl HO5.out ⟨X4.heap.size, 0, none⟩ 1 1 ([.int .i64 d, .int .i64 y] : List Value) rfl rfl nc.out HONE.out (by have := HLN.out; unfold maxLen; omega) (by have := HLN.out; omega) HBW.out ?_; rintro v' X6 hown' hgrow - hblk; have OWN := hid hown'; have GRW := hid hgrow; have BLK := hid hblk; clear hown' hgrow hblk)
          have OW := OWN.out
          rw [← tvals_snocG js d y, show js.length + 1 = (js ++ [(d, y)]).length by simp] at OW
          have hD6 := HD5.out.app GRW.out OW BLK.out
          have HD6 := hid hD6
          have HP6 := hid (pick_any g j3 zs 4 X6 hD6.src (by have := HJ3.out; have := HJK.out; omega) (by omega))
          clear OW hD6 x0 x1 OWN GRW BLK HBW HONE HO5 HD5 nc
          go_wp2_with fail
          with_reducible refine HP6.out.mono ?_
          rintro e X7 ⟨e4, j7, e0, e1, rfl, hj, hj2, hS, hO⟩
          obtain ⟨E, hE⟩ : ∃ E, 1 + e4 = E := ⟨_, rfl⟩
          have we : IntKind.i64.wrap (1 + e4) = E := (IntWalk.i64_in _ (by omega)).trans hE
          have hEb : 1 ≤ E ∧ E ≤ 4 := by omega
          have hD7 := HD6.out.only hO hS
          have rr := hD7.rr
          have r0 := rr.cell 0; have r1 := rr.cell 1; have f0 := rr.frozen 0; have f1 := rr.frozen 1
          simp only [List.getElem?_cons_zero, List.getElem?_cons_succ] at r0 r1
          obtain ⟨d', hd'⟩ : ∃ q, d + E = q := ⟨_, rfl⟩
          have wd : IntKind.i64.wrap (d + E) = d' := by rw [IntWalk.i64_in _ (by have := HDD.out; omega)]; exact hd'
          have hD8 := hD7.day (d' := d')
          have HLP2 := hid (show LogP 72 (js ++ [(d, y)]) d' by rw [← hd']; exact HLP1.out.snoc HY.out hEb)
          obtain ⟨X8, hX8⟩ : ∃ X, X = X7.setCell ⟨L + 1, 0, none⟩ (.int .i64 d') := ⟨_, rfl⟩
          rw [← hX8] at hD8
          have HX8 := hid hX8; have HD8 := hid hD8; have HJ7 := hid (show j7 ≤ j + 6 by have := HJ3.out; omega); have HE := hid hEb
          clear hS hO hj hj2 hD7 hD8 rr hX8 HP6 HD6 hd' hE e0 e1 hEb HJ3
          go_upto_region 19 with fail
          rw [← HX8.out]
          clear r0 r1 f0 f1 wd HX8 we
          obtain ⟨js', hjs⟩ : ∃ q, js ++ [(d, y)] = q := ⟨_, rfl⟩
          have HK2 := hid (show js'.length + (k - 1) = K by rw [← hjs]; simp; have := HK.out; omega)
          rw [hjs] at HD8 HLP2
          clear hjs HLP1 HRX HRX2 HVX RX4 HD4
          refine wp_region_held (S := fun W' : World => Row W' R 27 [.int .i64 lo, .int .i64 hi']) (by kernel_rfl) ?_
          change wpAnyH _ _ _ _ _ _ _ _ (World.drew _)
          obtain ⟨X9, hX9⟩ : ∃ X, X = World.drew X8 := ⟨_, rfl⟩
          have HD9 := hid (show DS g R (R + 2) (L + 1) L lo hi' [6, 4, 3] zs d' u js' v' j7 w X9 from by
            obtain ⟨h1, h2, h3, h4, h5, h6, h7, h8⟩ := HD8.out
            have bD : Below X8.heap.size X8 X9 := by rw [hX9]; exact (Below.refl _ _).drew
            have hg : g < X8.heap.size := by have := h2.lt; omega
            exact ⟨⟨h1.1, h1.2.1, h1.2.2.1, h1.2.2.2.1, h1.2.2.2.2.1, h1.2.2.2.2.2.1, h1.2.2.2.2.2.2.on bD h1.2.2.2.2.2.2.1⟩, h2.below bD h2.lt, h3.below bD h3.lt, h4.below bD h4.lt, h5.below bD hg, by rw [hX9]; exact h6, h7, by rw [hX9]; exact h8.drew⟩)
          rw [← hX9]
          clear hX9 HD8
          refine wpAnyH_takeD (some 56) (i := 0) (v := ?_) rfl rfl (by kernel_rfl) (by kernel_rfl) (by kernel_rfl) (fun _ _ _ h => h) (.inl ⟨by kernel_rfl, ?_⟩) HD9.out.fl ?_
          rotate_left
          · intro w' hw'; have e0 := Row.cell hw' 0; simp only [List.getElem?_cons_zero, List.getElem?_cons_succ] at e0; clear hw'; go_simp; try with_reducible rfl
          try simp only [Act.put, List.setIfInBounds_toArray, List.set_cons_zero, List.set_cons_succ]
          refine wpAnyH_takeD (some 58) (i := 2) (v := ?_) rfl rfl (by kernel_rfl) (by kernel_rfl) (by kernel_rfl) (fun _ _ _ h => h) (.inl ⟨by kernel_rfl, ?_⟩) HD9.out.fl ?_
          rotate_left
          · intro w' hw'; go_simp; try with_reducible rfl
          try simp only [Act.put, List.setIfInBounds_toArray, List.set_cons_zero, List.set_cons_succ]
          refine wpAnyH_takeD (some 59) (i := 3) (v := ?_) rfl rfl (by kernel_rfl) (by kernel_rfl) (by kernel_rfl) (fun _ _ _ h => h) (.inl ⟨by kernel_rfl, ?_⟩) HD9.out.fl ?_
          rotate_left
          · intro w' hw'; have e0 := Row.cell hw' 0; simp only [List.getElem?_cons_zero, List.getElem?_cons_succ] at e0; clear hw'; go_simp; try with_reducible rfl
          try simp only [Act.put, List.setIfInBounds_toArray, List.set_cons_zero, List.set_cons_succ]
          refine wpAnyH_takeD (some 60) (i := 4) (v := ?_) rfl rfl (by kernel_rfl) (by kernel_rfl) (by kernel_rfl) (fun _ _ _ h => h) (.inl ⟨by kernel_rfl, ?_⟩) HD9.out.fl ?_
          rotate_left
          · intro w' hw'; have e0 := Row.cell hw' 0; simp only [List.getElem?_cons_zero, List.getElem?_cons_succ] at e0; clear hw'; go_simp; try with_reducible rfl
          try simp only [Act.put, List.setIfInBounds_toArray, List.set_cons_zero, List.set_cons_succ]
          refine wpAnyH_takeD (some 61) (i := 5) (v := ?_) rfl rfl (by kernel_rfl) (by kernel_rfl) (by kernel_rfl) (fun _ _ _ h => h) (.inl ⟨by kernel_rfl, ?_⟩) HD9.out.fl ?_
          rotate_left
          · intro w' hw'; go_simp; try with_reducible rfl
          try simp only [Act.put, List.setIfInBounds_toArray, List.set_cons_zero, List.set_cons_succ]
          refine wpAnyH_takeD (some 66) (i := 10) (v := ?_) rfl rfl (by kernel_rfl) (by kernel_rfl) (by kernel_rfl) (fun _ _ _ h => h) (.inl ⟨by kernel_rfl, ?_⟩) HD9.out.fl ?_
          rotate_left
          · intro w' hw'; go_simp; try with_reducible rfl
          try simp only [Act.put, List.setIfInBounds_toArray, List.set_cons_zero, List.set_cons_succ]
          refine wpAnyH_all (rs := [1, 6]) (by kernel_rfl) (by simp) ?_
          intro i hi; simp only [List.mem_cons, List.not_mem_nil, or_false] at hi
          rcases hi with rfl | rfl
          · refine wpOp_step rfl (fun K hK => ?_)
            have cw : X9.cell? ⟨L + 1, 1, none⟩ = some (.int .i64 u) := HD9.out.rr.cell 1
            go_simp
            refine hK _ _ ⟨HD9.out.fl, ?_⟩
            try simp only [Act.put, List.setIfInBounds_toArray, List.set_cons_zero, List.set_cons_succ]
            clear cw
            clear hK K
            refine wpAnyH_all (rs := [6]) (by kernel_rfl) (by simp) ?_
            intro i hi; simp only [List.mem_cons, List.not_mem_nil, or_false] at hi
            subst hi
            refine wpOp_step rfl (fun K hK => ?_)
            go_simp
            with_reducible refine (pick_any g j7 zs 12 X9 HD9.out.src (by have := HJ7.out; have := HJK.out; omega) (by omega)).mono ?_
            rintro e X10 ⟨p, j8, p0, p1, rfl, hj, hj2, hS, hO⟩
            replace HD9 := hid (HD9.out.only hO hS)
            have HPB := hid (show 0 ≤ p ∧ p ≤ 11 by omega)
            obtain ⟨Q, hQ⟩ : ∃ q, lo + p = q := ⟨_, rfl⟩
            have wp' : IntKind.i64.wrap (lo + p) = Q := (IntWalk.i64_in _ (by have := HLO.out; omega)).trans hQ
            have qb : 0 ≤ Q ∧ Q ≤ 1011 := by have := HLO.out; omega
            have m0 : 0 ≤ E * Q := Int.mul_nonneg (by have := HE.out; omega) qb.1
            have m1 : E * Q ≤ 4 * 1011 := Int.mul_le_mul HE.out.2 qb.2 qb.1 (by omega)
            obtain ⟨M, hM⟩ : ∃ q, E * Q = q := ⟨_, rfl⟩
            have wm : IntKind.i64.wrap (E * Q) = M := (IntWalk.i64_in _ (by omega)).trans hM
            rw [hM] at m0 m1
            obtain ⟨A, hA⟩ : ∃ q, u + M = q := ⟨_, rfl⟩
            have wu : IntKind.i64.wrap (u + M) = A := (IntWalk.i64_in _ (by have := HU.out; omega)).trans hA
            have HAB := hid (show 0 ≤ A ∧ A ≤ 10000 by have := HU.out; omega)
            have HJ8 := hid (show j8 ≤ j + 8 by have := HJ7.out; omega)
            clear hS hO hj hj2 p0 p1 qb m0 m1 hQ hM hA
            refine hK _ _ ⟨HD9.out.fl, ?_⟩
            try simp only [Act.put, List.setIfInBounds_toArray, List.set_cons_zero, List.set_cons_succ]
            clear hK K
            refine wpAnyH_takeD (some 63) (i := 7) (v := ?_) rfl rfl (by kernel_rfl) (by kernel_rfl) (by kernel_rfl) (fun _ _ _ h => h) (.inl ⟨by kernel_rfl, ?_⟩) HD9.out.fl ?_
            rotate_left
            · intro w' hw'; go_simp; try with_reducible rfl
            try simp only [Act.put, List.setIfInBounds_toArray, List.set_cons_zero, List.set_cons_succ]
            refine wpAnyH_takeD (some 64) (i := 8) (v := ?_) rfl rfl (by kernel_rfl) (by kernel_rfl) (by kernel_rfl) (fun _ _ _ h => h) (.inl ⟨by kernel_rfl, ?_⟩) HD9.out.fl ?_
            rotate_left
            · intro w' hw'; go_simp; try with_reducible rfl
            try simp only [Act.put, List.setIfInBounds_toArray, List.set_cons_zero, List.set_cons_succ]
            refine wpAnyH_takeD (some 65) (i := 9) (v := ?_) rfl rfl (by kernel_rfl) (by kernel_rfl) (by kernel_rfl) (fun _ _ _ h => h) (.inl ⟨by kernel_rfl, ?_⟩) HD9.out.fl ?_
            rotate_left
            · intro w' hw'; go_simp; try with_reducible rfl
            try simp only [Act.put, List.setIfInBounds_toArray, List.set_cons_zero, List.set_cons_succ]
            refine wpAnyH_all (rs := [11]) (by kernel_rfl) (by simp) ?_
            intro i hi; simp only [List.mem_cons, List.not_mem_nil, or_false] at hi
            subst hi
            refine wpOp_step rfl (fun K hK => ?_)
            go_simp
            with_reducible refine (l04Mod_any A 72 (by have := HAB.out; omega) (by omega) X10).mono ?_
            rintro e X11 ⟨rfl, hw⟩
            subst hw
            refine hK _ _ ⟨HD9.out.fl, ?_⟩
            try simp only [Act.put, List.setIfInBounds_toArray, List.set_cons_zero, List.set_cons_succ]
            clear hK K
            refine wpAnyH_takeD (some 68) (i := 12) (v := ?_) rfl rfl (by kernel_rfl) (by kernel_rfl) (by kernel_rfl) (fun _ _ _ h => h) (.inl ⟨by kernel_rfl, ?_⟩) HD9.out.fl ?_
            rotate_left
            · intro w' hw'; have e0 := Row.cell hw' 0; simp only [List.getElem?_cons_zero, List.getElem?_cons_succ] at e0; clear hw'; go_simp; try with_reducible rfl
            try simp only [Act.put, List.setIfInBounds_toArray, List.set_cons_zero, List.set_cons_succ]
            refine wpAnyH_all (rs := [13]) (by kernel_rfl) (by simp) ?_
            intro i hi; simp only [List.mem_cons, List.not_mem_nil, or_false] at hi
            subst hi
            refine wpOp_step rfl (fun K hK => ?_)
            have fw : X10.frozen? ⟨L + 1, 1, none⟩ = false := HD9.out.rr.frozen 1
            have ow1 : X10.cell? ⟨L + 1, 1, none⟩ = some (.int .i64 u) := HD9.out.rr.cell 1
            go_simp
            refine hK _ _ ⟨((HD9.out.val (u' := A % 72)).fl), ?_⟩
            try simp only [Act.put, List.setIfInBounds_toArray, List.set_cons_zero, List.set_cons_succ]
            clear fw ow1
            clear hK K
            refine wpAnyH_done (by kernel_rfl) ?_ _
            have hmb : 0 ≤ A % 72 ∧ A % 72 < 72 := by omega
            have hD12 := HD9.out.val (u' := A % 72)
            obtain ⟨u', hu'⟩ : ∃ q, A % 72 = q := ⟨_, rfl⟩
            rw [hu'] at hmb hD12 ⊢
            obtain ⟨X12, hX12⟩ : ∃ X, X = X10.setCell ⟨L + 1, 1, none⟩ (.int .i64 u') := ⟨_, rfl⟩
            rw [← hX12] at hD12 ⊢
            have HO12 := hid (one_any g j8 zs 8 X12 hD12.src (by have := HJ8.out; have := HJK.out; omega) (by omega))
            have HD12 := hid hD12; have HU2 := hid hmb
            clear hX12 hD12 hmb hu' wp' wm wu HD9 HAB HPB
            go_wp2_with fail
            with_reducible refine HO12.out.mono ?_
            rintro e X13 ⟨b, j9, rfl, hj, hj2, hS, hO⟩
            have HD13 := hid (HD12.out.only hO hS)
            have HJ9 := hid (show j9 ≤ j + 10 by have := HJ8.out; omega)
            clear hS hO hj hj2 HO12 HD12 HJ8
            cases b with
            | true =>
              have HP14 := hid (pick_any g j9 zs 72 X13 HD13.out.src (by have := HJ9.out; have := HJK.out; omega) (by omega))
              go_wp2_with fail
              with_reducible refine HP14.out.mono ?_
              rintro e X14 ⟨q, j10, q0, q1, rfl, hj, hj2, hS, hO⟩
              have hD14 := HD13.out.only hO hS
              have f1 := hD14.rr.frozen 1
              have c1 := hD14.rr.cell 1
              simp only [List.getElem?_cons_zero, List.getElem?_cons_succ] at c1
              have HD15 := hid (hD14.val (u' := q))
              have HUQ := hid (show 0 ≤ q ∧ q < 72 by omega)
              have HJ10 := hid (show j10 ≤ j + 12 by have := HJ9.out; omega)
              clear hS hO hj hj2 hD14 q0 q1 HP14
              go_wp2_with fail
              go_roundw
              case rel => exact ⟨k - 1, j10, v', js', d', q, HK2.out, by have := HJ10.out; have := HJK.out; omega, by rw [show ((k - 1 : Nat) : Int) = (k : Int) - 1 by omega], rfl, HLP2.out, HUQ.out, HD15.out⟩
              case measure => simp [intOf]; omega
            | false =>
              go_wp2_with fail
              go_roundw
              case rel => exact ⟨k - 1, j9, v', js', d', u', HK2.out, by have := HJ9.out; have := HJK.out; omega, by rw [show ((k - 1 : Nat) : Int) = (k : Int) - 1 by omega], rfl, HLP2.out, HU2.out, HD13.out⟩
              case measure => simp [intOf]; omega
          · refine wpOp_step rfl (fun K hK => ?_)
            go_simp
            with_reducible refine (pick_any g j7 zs 12 X9 HD9.out.src (by have := HJ7.out; have := HJK.out; omega) (by omega)).mono ?_
            rintro e X10 ⟨p, j8, p0, p1, rfl, hj, hj2, hS, hO⟩
            replace HD9 := hid (HD9.out.only hO hS)
            have HPB := hid (show 0 ≤ p ∧ p ≤ 11 by omega)
            obtain ⟨Q, hQ⟩ : ∃ q, lo + p = q := ⟨_, rfl⟩
            have wp' : IntKind.i64.wrap (lo + p) = Q := (IntWalk.i64_in _ (by have := HLO.out; omega)).trans hQ
            have qb : 0 ≤ Q ∧ Q ≤ 1011 := by have := HLO.out; omega
            have m0 : 0 ≤ E * Q := Int.mul_nonneg (by have := HE.out; omega) qb.1
            have m1 : E * Q ≤ 4 * 1011 := Int.mul_le_mul HE.out.2 qb.2 qb.1 (by omega)
            obtain ⟨M, hM⟩ : ∃ q, E * Q = q := ⟨_, rfl⟩
            have wm : IntKind.i64.wrap (E * Q) = M := (IntWalk.i64_in _ (by omega)).trans hM
            rw [hM] at m0 m1
            obtain ⟨A, hA⟩ : ∃ q, u + M = q := ⟨_, rfl⟩
            have wu : IntKind.i64.wrap (u + M) = A := (IntWalk.i64_in _ (by have := HU.out; omega)).trans hA
            have HAB := hid (show 0 ≤ A ∧ A ≤ 10000 by have := HU.out; omega)
            have HJ8 := hid (show j8 ≤ j + 8 by have := HJ7.out; omega)
            clear hS hO hj hj2 p0 p1 qb m0 m1 hQ hM hA
            refine hK _ _ ⟨HD9.out.fl, ?_⟩
            try simp only [Act.put, List.setIfInBounds_toArray, List.set_cons_zero, List.set_cons_succ]
            clear hK K
            refine wpAnyH_takeD (some 63) (i := 7) (v := ?_) rfl rfl (by kernel_rfl) (by kernel_rfl) (by kernel_rfl) (fun _ _ _ h => h) (.inl ⟨by kernel_rfl, ?_⟩) HD9.out.fl ?_
            rotate_left
            · intro w' hw'; go_simp; try with_reducible rfl
            try simp only [Act.put, List.setIfInBounds_toArray, List.set_cons_zero, List.set_cons_succ]
            refine wpAnyH_takeD (some 64) (i := 8) (v := ?_) rfl rfl (by kernel_rfl) (by kernel_rfl) (by kernel_rfl) (fun _ _ _ h => h) (.inl ⟨by kernel_rfl, ?_⟩) HD9.out.fl ?_
            rotate_left
            · intro w' hw'; go_simp; try with_reducible rfl
            try simp only [Act.put, List.setIfInBounds_toArray, List.set_cons_zero, List.set_cons_succ]
            refine wpAnyH_all (rs := [1]) (by kernel_rfl) (by simp) ?_
            intro i hi; simp only [List.mem_cons, List.not_mem_nil, or_false] at hi
            subst hi
            refine wpOp_step rfl (fun K hK => ?_)
            have cw : X10.cell? ⟨L + 1, 1, none⟩ = some (.int .i64 u) := HD9.out.rr.cell 1
            go_simp
            refine hK _ _ ⟨HD9.out.fl, ?_⟩
            try simp only [Act.put, List.setIfInBounds_toArray, List.set_cons_zero, List.set_cons_succ]
            clear cw
            clear hK K
            refine wpAnyH_takeD (some 65) (i := 9) (v := ?_) rfl rfl (by kernel_rfl) (by kernel_rfl) (by kernel_rfl) (fun _ _ _ h => h) (.inl ⟨by kernel_rfl, ?_⟩) HD9.out.fl ?_
            rotate_left
            · intro w' hw'; go_simp; try with_reducible rfl
            try simp only [Act.put, List.setIfInBounds_toArray, List.set_cons_zero, List.set_cons_succ]
            refine wpAnyH_all (rs := [11]) (by kernel_rfl) (by simp) ?_
            intro i hi; simp only [List.mem_cons, List.not_mem_nil, or_false] at hi
            subst hi
            refine wpOp_step rfl (fun K hK => ?_)
            go_simp
            with_reducible refine (l04Mod_any A 72 (by have := HAB.out; omega) (by omega) X10).mono ?_
            rintro e X11 ⟨rfl, hw⟩
            subst hw
            refine hK _ _ ⟨HD9.out.fl, ?_⟩
            try simp only [Act.put, List.setIfInBounds_toArray, List.set_cons_zero, List.set_cons_succ]
            clear hK K
            refine wpAnyH_takeD (some 68) (i := 12) (v := ?_) rfl rfl (by kernel_rfl) (by kernel_rfl) (by kernel_rfl) (fun _ _ _ h => h) (.inl ⟨by kernel_rfl, ?_⟩) HD9.out.fl ?_
            rotate_left
            · intro w' hw'; have e0 := Row.cell hw' 0; simp only [List.getElem?_cons_zero, List.getElem?_cons_succ] at e0; clear hw'; go_simp; try with_reducible rfl
            try simp only [Act.put, List.setIfInBounds_toArray, List.set_cons_zero, List.set_cons_succ]
            refine wpAnyH_all (rs := [13]) (by kernel_rfl) (by simp) ?_
            intro i hi; simp only [List.mem_cons, List.not_mem_nil, or_false] at hi
            subst hi
            refine wpOp_step rfl (fun K hK => ?_)
            have fw : X10.frozen? ⟨L + 1, 1, none⟩ = false := HD9.out.rr.frozen 1
            have ow1 : X10.cell? ⟨L + 1, 1, none⟩ = some (.int .i64 u) := HD9.out.rr.cell 1
            go_simp
            refine hK _ _ ⟨((HD9.out.val (u' := A % 72)).fl), ?_⟩
            try simp only [Act.put, List.setIfInBounds_toArray, List.set_cons_zero, List.set_cons_succ]
            clear fw ow1
            clear hK K
            refine wpAnyH_done (by kernel_rfl) ?_ _
            have hmb : 0 ≤ A % 72 ∧ A % 72 < 72 := by omega
            have hD12 := HD9.out.val (u' := A % 72)
            obtain ⟨u', hu'⟩ : ∃ q, A % 72 = q := ⟨_, rfl⟩
            rw [hu'] at hmb hD12 ⊢
            obtain ⟨X12, hX12⟩ : ∃ X, X = X10.setCell ⟨L + 1, 1, none⟩ (.int .i64 u') := ⟨_, rfl⟩
            rw [← hX12] at hD12 ⊢
            have HO12 := hid (one_any g j8 zs 8 X12 hD12.src (by have := HJ8.out; have := HJK.out; omega) (by omega))
            have HD12 := hid hD12; have HU2 := hid hmb
            clear hX12 hD12 hmb hu' wp' wm wu HD9 HAB HPB
            go_wp2_with fail
            with_reducible refine HO12.out.mono ?_
            rintro e X13 ⟨b, j9, rfl, hj, hj2, hS, hO⟩
            have HD13 := hid (HD12.out.only hO hS)
            have HJ9 := hid (show j9 ≤ j + 10 by have := HJ8.out; omega)
            clear hS hO hj hj2 HO12 HD12 HJ8
            cases b with
            | true =>
              have HP14 := hid (pick_any g j9 zs 72 X13 HD13.out.src (by have := HJ9.out; have := HJK.out; omega) (by omega))
              go_wp2_with fail
              with_reducible refine HP14.out.mono ?_
              rintro e X14 ⟨q, j10, q0, q1, rfl, hj, hj2, hS, hO⟩
              have hD14 := HD13.out.only hO hS
              have f1 := hD14.rr.frozen 1
              have c1 := hD14.rr.cell 1
              simp only [List.getElem?_cons_zero, List.getElem?_cons_succ] at c1
              have HD15 := hid (hD14.val (u' := q))
              have HUQ := hid (show 0 ≤ q ∧ q < 72 by omega)
              have HJ10 := hid (show j10 ≤ j + 12 by have := HJ9.out; omega)
              clear hS hO hj hj2 hD14 q0 q1 HP14
              go_wp2_with fail
              go_roundw
              case rel => exact ⟨k - 1, j10, v', js', d', q, HK2.out, by have := HJ10.out; have := HJK.out; omega, by rw [show ((k - 1 : Nat) : Int) = (k : Int) - 1 by omega], rfl, HLP2.out, HUQ.out, HD15.out⟩
              case measure => simp [intOf]; omega
            | false =>
              go_wp2_with fail
              go_roundw
              case rel => exact ⟨k - 1, j9, v', js', d', u', HK2.out, by have := HJ9.out; have := HJK.out; omega, by rw [show ((k - 1 : Nat) : Int) = (k : Int) - 1 by omega], rfl, HLP2.out, HU2.out, HD13.out⟩
              case measure => simp [intOf]; omega
        | false =>
          obtain ⟨X4, hX4⟩ : ∃ X, X = X2 := ⟨_, rfl⟩
          obtain ⟨j3, hj3⟩ : ∃ X, X = j2 := ⟨_, rfl⟩
          obtain ⟨y, hy⟩ : ∃ X, X = u := ⟨_, rfl⟩
          have HY := hid (show 0 ≤ y ∧ y < 72 by rw [hy]; exact HU.out); have HJ3 := hid (show j3 ≤ j + 4 by have := HJ2.out; omega)
          have RX4 := hid (show Row X4 Rx 38 [.int .i64 d, .int .i64 y] by rw [hX4, hy]; exact RX2.out); have HD4 := hid (show DS g R (R + 2) (L + 1) L lo hi' [6, 4, 3] zs d u js v j3 w X4 by rw [hX4, hj3]; exact HD2.out)
          go_upto_region 16 with fail
          rw [← hX4]
          clear hX4 hj3 hy HD2 RX2 HJ2
          have hD4 := HD4.out
          have hrx := RX4.out
          have x0 := hrx.cell 0; have x1 := hrx.cell 1
          simp only [List.getElem?_cons_zero, List.getElem?_cons_succ] at x0 x1
          have hD5 := hD4.alloc (.cells #[.int .i64 d, .int .i64 y] 38)
          have news := Row.new X4 38 [.int .i64 d, .int .i64 y]
          have nc := hid (show ∀ j u, ([.int .i64 d, .int .i64 y] : List Value)[j]? = some u → (X4.alloc (.cells #[.int .i64 d, .int .i64 y] 38)).cell? ((⟨X4.heap.size, 0, none⟩ : Addr).add j) = some u from fun j u hj => by
            rw [show (⟨X4.heap.size, 0, none⟩ : Addr).add j = ⟨X4.heap.size, j, none⟩ from by unfold Addr.add; split <;> simp_all]
            exact (news.cell j).trans hj)
          have HONE := hid (show ∀ u ∈ ([.int .i64 d, .int .i64 y] : List Value), u.oneCell' = true from by intro u hu; simp at hu; rcases hu with rfl | rfl <;> rfl)
          have HO5 := hid (show (X4.alloc (.cells #[.int .i64 d, .int .i64 y] 38)).ownsRow L 38 2 v js.length (tvals js) from hD5.ow)
          have HLN := hid (show js.length ≤ 8 by have := HK.out; have := KB.out; omega)
          have HBW := hid (show L ≤ (X4.alloc (.cells #[.int .i64 d, .int .i64 y] 38)).heap.size by have := hD5.rr.lt; omega)
          have HD5 := hid hD5
          clear hD4 hrx hD5 news
          go_wp2_with (at_builtin; refine wpList_append_own_at _ rfl _ _ 25 rfl L 38 i0 (.agg #[.int .i64 0, .int .i64 0]) 2 16 Try.underlying25 hi0 iz0 iz1 iz2 rfl (by decide) _ _ _ rfl HO5.out ⟨X4.heap.size, 0, none⟩ 1 1 ([.int .i64 d, .int .i64 y] : List Value) rfl rfl nc.out HONE.out (by have := HLN.out; unfold maxLen; omega) (by have := HLN.out; omega) HBW.out ?_; rintro v' X6 hown' hgrow - hblk; have OWN := hid hown'; have GRW := hid hgrow; have BLK := hid hblk; clear hown' hgrow hblk)
          have OW := OWN.out
          rw [← tvals_snocG js d y, show js.length + 1 = (js ++ [(d, y)]).length by simp] at OW
          have hD6 := HD5.out.app GRW.out OW BLK.out
          have HD6 := hid hD6
          have HP6 := hid (pick_any g j3 zs 4 X6 hD6.src (by have := HJ3.out; have := HJK.out; omega) (by omega))
          clear OW hD6 x0 x1 OWN GRW BLK HBW HONE HO5 HD5 nc
          go_wp2_with fail
          with_reducible refine HP6.out.mono ?_
          rintro e X7 ⟨e4, j7, e0, e1, rfl, hj, hj2, hS, hO⟩
          obtain ⟨E, hE⟩ : ∃ E, 1 + e4 = E := ⟨_, rfl⟩
          have we : IntKind.i64.wrap (1 + e4) = E := (IntWalk.i64_in _ (by omega)).trans hE
          have hEb : 1 ≤ E ∧ E ≤ 4 := by omega
          have hD7 := HD6.out.only hO hS
          have rr := hD7.rr
          have r0 := rr.cell 0; have r1 := rr.cell 1; have f0 := rr.frozen 0; have f1 := rr.frozen 1
          simp only [List.getElem?_cons_zero, List.getElem?_cons_succ] at r0 r1
          obtain ⟨d', hd'⟩ : ∃ q, d + E = q := ⟨_, rfl⟩
          have wd : IntKind.i64.wrap (d + E) = d' := by rw [IntWalk.i64_in _ (by have := HDD.out; omega)]; exact hd'
          have hD8 := hD7.day (d' := d')
          have HLP2 := hid (show LogP 72 (js ++ [(d, y)]) d' by rw [← hd']; exact HLP1.out.snoc HY.out hEb)
          obtain ⟨X8, hX8⟩ : ∃ X, X = X7.setCell ⟨L + 1, 0, none⟩ (.int .i64 d') := ⟨_, rfl⟩
          rw [← hX8] at hD8
          have HX8 := hid hX8; have HD8 := hid hD8; have HJ7 := hid (show j7 ≤ j + 6 by have := HJ3.out; omega); have HE := hid hEb
          clear hS hO hj hj2 hD7 hD8 rr hX8 HP6 HD6 hd' hE e0 e1 hEb HJ3
          go_upto_region 19 with fail
          rw [← HX8.out]
          clear r0 r1 f0 f1 wd HX8 we
          obtain ⟨js', hjs⟩ : ∃ q, js ++ [(d, y)] = q := ⟨_, rfl⟩
          have HK2 := hid (show js'.length + (k - 1) = K by rw [← hjs]; simp; have := HK.out; omega)
          rw [hjs] at HD8 HLP2
          clear hjs HLP1 HRX HRX2 HVX RX4 HD4
          refine wp_region_held (S := fun W' : World => Row W' R 27 [.int .i64 lo, .int .i64 hi']) (by kernel_rfl) ?_
          change wpAnyH _ _ _ _ _ _ _ _ (World.drew _)
          obtain ⟨X9, hX9⟩ : ∃ X, X = World.drew X8 := ⟨_, rfl⟩
          have HD9 := hid (show DS g R (R + 2) (L + 1) L lo hi' [6, 4, 3] zs d' u js' v' j7 w X9 from by
            obtain ⟨h1, h2, h3, h4, h5, h6, h7, h8⟩ := HD8.out
            have bD : Below X8.heap.size X8 X9 := by rw [hX9]; exact (Below.refl _ _).drew
            have hg : g < X8.heap.size := by have := h2.lt; omega
            exact ⟨⟨h1.1, h1.2.1, h1.2.2.1, h1.2.2.2.1, h1.2.2.2.2.1, h1.2.2.2.2.2.1, h1.2.2.2.2.2.2.on bD h1.2.2.2.2.2.2.1⟩, h2.below bD h2.lt, h3.below bD h3.lt, h4.below bD h4.lt, h5.below bD hg, by rw [hX9]; exact h6, h7, by rw [hX9]; exact h8.drew⟩)
          rw [← hX9]
          clear hX9 HD8
          refine wpAnyH_takeD (some 56) (i := 0) (v := ?_) rfl rfl (by kernel_rfl) (by kernel_rfl) (by kernel_rfl) (fun _ _ _ h => h) (.inl ⟨by kernel_rfl, ?_⟩) HD9.out.fl ?_
          rotate_left
          · intro w' hw'; have e0 := Row.cell hw' 0; simp only [List.getElem?_cons_zero, List.getElem?_cons_succ] at e0; clear hw'; go_simp; try with_reducible rfl
          try simp only [Act.put, List.setIfInBounds_toArray, List.set_cons_zero, List.set_cons_succ]
          refine wpAnyH_takeD (some 58) (i := 2) (v := ?_) rfl rfl (by kernel_rfl) (by kernel_rfl) (by kernel_rfl) (fun _ _ _ h => h) (.inl ⟨by kernel_rfl, ?_⟩) HD9.out.fl ?_
          rotate_left
          · intro w' hw'; go_simp; try with_reducible rfl
          try simp only [Act.put, List.setIfInBounds_toArray, List.set_cons_zero, List.set_cons_succ]
          refine wpAnyH_takeD (some 59) (i := 3) (v := ?_) rfl rfl (by kernel_rfl) (by kernel_rfl) (by kernel_rfl) (fun _ _ _ h => h) (.inl ⟨by kernel_rfl, ?_⟩) HD9.out.fl ?_
          rotate_left
          · intro w' hw'; have e0 := Row.cell hw' 0; simp only [List.getElem?_cons_zero, List.getElem?_cons_succ] at e0; clear hw'; go_simp; try with_reducible rfl
          try simp only [Act.put, List.setIfInBounds_toArray, List.set_cons_zero, List.set_cons_succ]
          refine wpAnyH_takeD (some 60) (i := 4) (v := ?_) rfl rfl (by kernel_rfl) (by kernel_rfl) (by kernel_rfl) (fun _ _ _ h => h) (.inl ⟨by kernel_rfl, ?_⟩) HD9.out.fl ?_
          rotate_left
          · intro w' hw'; have e0 := Row.cell hw' 0; simp only [List.getElem?_cons_zero, List.getElem?_cons_succ] at e0; clear hw'; go_simp; try with_reducible rfl
          try simp only [Act.put, List.setIfInBounds_toArray, List.set_cons_zero, List.set_cons_succ]
          refine wpAnyH_takeD (some 61) (i := 5) (v := ?_) rfl rfl (by kernel_rfl) (by kernel_rfl) (by kernel_rfl) (fun _ _ _ h => h) (.inl ⟨by kernel_rfl, ?_⟩) HD9.out.fl ?_
          rotate_left
          · intro w' hw'; go_simp; try with_reducible rfl
          try simp only [Act.put, List.setIfInBounds_toArray, List.set_cons_zero, List.set_cons_succ]
          refine wpAnyH_takeD (some 66) (i := 10) (v := ?_) rfl rfl (by kernel_rfl) (by kernel_rfl) (by kernel_rfl) (fun _ _ _ h => h) (.inl ⟨by kernel_rfl, ?_⟩) HD9.out.fl ?_
          rotate_left
          · intro w' hw'; go_simp; try with_reducible rfl
          try simp only [Act.put, List.setIfInBounds_toArray, List.set_cons_zero, List.set_cons_succ]
          refine wpAnyH_all (rs := [1, 6]) (by kernel_rfl) (by simp) ?_
          intro i hi; simp only [List.mem_cons, List.not_mem_nil, or_false] at hi
          rcases hi with rfl | rfl
          · refine wpOp_step rfl (fun K hK => ?_)
            have cw : X9.cell? ⟨L + 1, 1, none⟩ = some (.int .i64 u) := HD9.out.rr.cell 1
            go_simp
            refine hK _ _ ⟨HD9.out.fl, ?_⟩
            try simp only [Act.put, List.setIfInBounds_toArray, List.set_cons_zero, List.set_cons_succ]
            clear cw
            clear hK K
            refine wpAnyH_all (rs := [6]) (by kernel_rfl) (by simp) ?_
            intro i hi; simp only [List.mem_cons, List.not_mem_nil, or_false] at hi
            subst hi
            refine wpOp_step rfl (fun K hK => ?_)
            go_simp
            with_reducible refine (pick_any g j7 zs 12 X9 HD9.out.src (by have := HJ7.out; have := HJK.out; omega) (by omega)).mono ?_
            rintro e X10 ⟨p, j8, p0, p1, rfl, hj, hj2, hS, hO⟩
            replace HD9 := hid (HD9.out.only hO hS)
            have HPB := hid (show 0 ≤ p ∧ p ≤ 11 by omega)
            obtain ⟨Q, hQ⟩ : ∃ q, lo + p = q := ⟨_, rfl⟩
            have wp' : IntKind.i64.wrap (lo + p) = Q := (IntWalk.i64_in _ (by have := HLO.out; omega)).trans hQ
            have qb : 0 ≤ Q ∧ Q ≤ 1011 := by have := HLO.out; omega
            have m0 : 0 ≤ E * Q := Int.mul_nonneg (by have := HE.out; omega) qb.1
            have m1 : E * Q ≤ 4 * 1011 := Int.mul_le_mul HE.out.2 qb.2 qb.1 (by omega)
            obtain ⟨M, hM⟩ : ∃ q, E * Q = q := ⟨_, rfl⟩
            have wm : IntKind.i64.wrap (E * Q) = M := (IntWalk.i64_in _ (by omega)).trans hM
            rw [hM] at m0 m1
            obtain ⟨A, hA⟩ : ∃ q, u + M = q := ⟨_, rfl⟩
            have wu : IntKind.i64.wrap (u + M) = A := (IntWalk.i64_in _ (by have := HU.out; omega)).trans hA
            have HAB := hid (show 0 ≤ A ∧ A ≤ 10000 by have := HU.out; omega)
            have HJ8 := hid (show j8 ≤ j + 8 by have := HJ7.out; omega)
            clear hS hO hj hj2 p0 p1 qb m0 m1 hQ hM hA
            refine hK _ _ ⟨HD9.out.fl, ?_⟩
            try simp only [Act.put, List.setIfInBounds_toArray, List.set_cons_zero, List.set_cons_succ]
            clear hK K
            refine wpAnyH_takeD (some 63) (i := 7) (v := ?_) rfl rfl (by kernel_rfl) (by kernel_rfl) (by kernel_rfl) (fun _ _ _ h => h) (.inl ⟨by kernel_rfl, ?_⟩) HD9.out.fl ?_
            rotate_left
            · intro w' hw'; go_simp; try with_reducible rfl
            try simp only [Act.put, List.setIfInBounds_toArray, List.set_cons_zero, List.set_cons_succ]
            refine wpAnyH_takeD (some 64) (i := 8) (v := ?_) rfl rfl (by kernel_rfl) (by kernel_rfl) (by kernel_rfl) (fun _ _ _ h => h) (.inl ⟨by kernel_rfl, ?_⟩) HD9.out.fl ?_
            rotate_left
            · intro w' hw'; go_simp; try with_reducible rfl
            try simp only [Act.put, List.setIfInBounds_toArray, List.set_cons_zero, List.set_cons_succ]
            refine wpAnyH_takeD (some 65) (i := 9) (v := ?_) rfl rfl (by kernel_rfl) (by kernel_rfl) (by kernel_rfl) (fun _ _ _ h => h) (.inl ⟨by kernel_rfl, ?_⟩) HD9.out.fl ?_
            rotate_left
            · intro w' hw'; go_simp; try with_reducible rfl
            try simp only [Act.put, List.setIfInBounds_toArray, List.set_cons_zero, List.set_cons_succ]
            refine wpAnyH_all (rs := [11]) (by kernel_rfl) (by simp) ?_
            intro i hi; simp only [List.mem_cons, List.not_mem_nil, or_false] at hi
            subst hi
            refine wpOp_step rfl (fun K hK => ?_)
            go_simp
            with_reducible refine (l04Mod_any A 72 (by have := HAB.out; omega) (by omega) X10).mono ?_
            rintro e X11 ⟨rfl, hw⟩
            subst hw
            refine hK _ _ ⟨HD9.out.fl, ?_⟩
            try simp only [Act.put, List.setIfInBounds_toArray, List.set_cons_zero, List.set_cons_succ]
            clear hK K
            refine wpAnyH_takeD (some 68) (i := 12) (v := ?_) rfl rfl (by kernel_rfl) (by kernel_rfl) (by kernel_rfl) (fun _ _ _ h => h) (.inl ⟨by kernel_rfl, ?_⟩) HD9.out.fl ?_
            rotate_left
            · intro w' hw'; have e0 := Row.cell hw' 0; simp only [List.getElem?_cons_zero, List.getElem?_cons_succ] at e0; clear hw'; go_simp; try with_reducible rfl
            try simp only [Act.put, List.setIfInBounds_toArray, List.set_cons_zero, List.set_cons_succ]
            refine wpAnyH_all (rs := [13]) (by kernel_rfl) (by simp) ?_
            intro i hi; simp only [List.mem_cons, List.not_mem_nil, or_false] at hi
            subst hi
            refine wpOp_step rfl (fun K hK => ?_)
            have fw : X10.frozen? ⟨L + 1, 1, none⟩ = false := HD9.out.rr.frozen 1
            have ow1 : X10.cell? ⟨L + 1, 1, none⟩ = some (.int .i64 u) := HD9.out.rr.cell 1
            go_simp
            refine hK _ _ ⟨((HD9.out.val (u' := A % 72)).fl), ?_⟩
            try simp only [Act.put, List.setIfInBounds_toArray, List.set_cons_zero, List.set_cons_succ]
            clear fw ow1
            clear hK K
            refine wpAnyH_done (by kernel_rfl) ?_ _
            have hmb : 0 ≤ A % 72 ∧ A % 72 < 72 := by omega
            have hD12 := HD9.out.val (u' := A % 72)
            obtain ⟨u', hu'⟩ : ∃ q, A % 72 = q := ⟨_, rfl⟩
            rw [hu'] at hmb hD12 ⊢
            obtain ⟨X12, hX12⟩ : ∃ X, X = X10.setCell ⟨L + 1, 1, none⟩ (.int .i64 u') := ⟨_, rfl⟩
            rw [← hX12] at hD12 ⊢
            have HO12 := hid (one_any g j8 zs 8 X12 hD12.src (by have := HJ8.out; have := HJK.out; omega) (by omega))
            have HD12 := hid hD12; have HU2 := hid hmb
            clear hX12 hD12 hmb hu' wp' wm wu HD9 HAB HPB
            go_wp2_with fail
            with_reducible refine HO12.out.mono ?_
            rintro e X13 ⟨b, j9, rfl, hj, hj2, hS, hO⟩
            have HD13 := hid (HD12.out.only hO hS)
            have HJ9 := hid (show j9 ≤ j + 10 by have := HJ8.out; omega)
            clear hS hO hj hj2 HO12 HD12 HJ8
            cases b with
            | true =>
              have HP14 := hid (pick_any g j9 zs 72 X13 HD13.out.src (by have := HJ9.out; have := HJK.out; omega) (by omega))
              go_wp2_with fail
              with_reducible refine HP14.out.mono ?_
              rintro e X14 ⟨q, j10, q0, q1, rfl, hj, hj2, hS, hO⟩
              have hD14 := HD13.out.only hO hS
              have f1 := hD14.rr.frozen 1
              have c1 := hD14.rr.cell 1
              simp only [List.getElem?_cons_zero, List.getElem?_cons_succ] at c1
              have HD15 := hid (hD14.val (u' := q))
              have HUQ := hid (show 0 ≤ q ∧ q < 72 by omega)
              have HJ10 := hid (show j10 ≤ j + 12 by have := HJ9.out; omega)
              clear hS hO hj hj2 hD14 q0 q1 HP14
              go_wp2_with fail
              go_roundw
              case rel => exact ⟨k - 1, j10, v', js', d', q, HK2.out, by have := HJ10.out; have := HJK.out; omega, by rw [show ((k - 1 : Nat) : Int) = (k : Int) - 1 by omega], rfl, HLP2.out, HUQ.out, HD15.out⟩
              case measure => simp [intOf]; omega
            | false =>
              go_wp2_with fail
              go_roundw
              case rel => exact ⟨k - 1, j9, v', js', d', u', HK2.out, by have := HJ9.out; have := HJK.out; omega, by rw [show ((k - 1 : Nat) : Int) = (k : Int) - 1 by omega], rfl, HLP2.out, HU2.out, HD13.out⟩
              case measure => simp [intOf]; omega
          · refine wpOp_step rfl (fun K hK => ?_)
            go_simp
            with_reducible refine (pick_any g j7 zs 12 X9 HD9.out.src (by have := HJ7.out; have := HJK.out; omega) (by omega)).mono ?_
            rintro e X10 ⟨p, j8, p0, p1, rfl, hj, hj2, hS, hO⟩
            replace HD9 := hid (HD9.out.only hO hS)
            have HPB := hid (show 0 ≤ p ∧ p ≤ 11 by omega)
            obtain ⟨Q, hQ⟩ : ∃ q, lo + p = q := ⟨_, rfl⟩
            have wp' : IntKind.i64.wrap (lo + p) = Q := (IntWalk.i64_in _ (by have := HLO.out; omega)).trans hQ
            have qb : 0 ≤ Q ∧ Q ≤ 1011 := by have := HLO.out; omega
            have m0 : 0 ≤ E * Q := Int.mul_nonneg (by have := HE.out; omega) qb.1
            have m1 : E * Q ≤ 4 * 1011 := Int.mul_le_mul HE.out.2 qb.2 qb.1 (by omega)
            obtain ⟨M, hM⟩ : ∃ q, E * Q = q := ⟨_, rfl⟩
            have wm : IntKind.i64.wrap (E * Q) = M := (IntWalk.i64_in _ (by omega)).trans hM
            rw [hM] at m0 m1
            obtain ⟨A, hA⟩ : ∃ q, u + M = q := ⟨_, rfl⟩
            have wu : IntKind.i64.wrap (u + M) = A := (IntWalk.i64_in _ (by have := HU.out; omega)).trans hA
            have HAB := hid (show 0 ≤ A ∧ A ≤ 10000 by have := HU.out; omega)
            have HJ8 := hid (show j8 ≤ j + 8 by have := HJ7.out; omega)
            clear hS hO hj hj2 p0 p1 qb m0 m1 hQ hM hA
            refine hK _ _ ⟨HD9.out.fl, ?_⟩
            try simp only [Act.put, List.setIfInBounds_toArray, List.set_cons_zero, List.set_cons_succ]
            clear hK K
            refine wpAnyH_takeD (some 63) (i := 7) (v := ?_) rfl rfl (by kernel_rfl) (by kernel_rfl) (by kernel_rfl) (fun _ _ _ h => h) (.inl ⟨by kernel_rfl, ?_⟩) HD9.out.fl ?_
            rotate_left
            · intro w' hw'; go_simp; try with_reducible rfl
            try simp only [Act.put, List.setIfInBounds_toArray, List.set_cons_zero, List.set_cons_succ]
            refine wpAnyH_takeD (some 64) (i := 8) (v := ?_) rfl rfl (by kernel_rfl) (by kernel_rfl) (by kernel_rfl) (fun _ _ _ h => h) (.inl ⟨by kernel_rfl, ?_⟩) HD9.out.fl ?_
            rotate_left
            · intro w' hw'; go_simp; try with_reducible rfl
            try simp only [Act.put, List.setIfInBounds_toArray, List.set_cons_zero, List.set_cons_succ]
            refine wpAnyH_all (rs := [1]) (by kernel_rfl) (by simp) ?_
            intro i hi; simp only [List.mem_cons, List.not_mem_nil, or_false] at hi
            subst hi
            refine wpOp_step rfl (fun K hK => ?_)
            have cw : X10.cell? ⟨L + 1, 1, none⟩ = some (.int .i64 u) := HD9.out.rr.cell 1
            go_simp
            refine hK _ _ ⟨HD9.out.fl, ?_⟩
            try simp only [Act.put, List.setIfInBounds_toArray, List.set_cons_zero, List.set_cons_succ]
            clear cw
            clear hK K
            refine wpAnyH_takeD (some 65) (i := 9) (v := ?_) rfl rfl (by kernel_rfl) (by kernel_rfl) (by kernel_rfl) (fun _ _ _ h => h) (.inl ⟨by kernel_rfl, ?_⟩) HD9.out.fl ?_
            rotate_left
            · intro w' hw'; go_simp; try with_reducible rfl
            try simp only [Act.put, List.setIfInBounds_toArray, List.set_cons_zero, List.set_cons_succ]
            refine wpAnyH_all (rs := [11]) (by kernel_rfl) (by simp) ?_
            intro i hi; simp only [List.mem_cons, List.not_mem_nil, or_false] at hi
            subst hi
            refine wpOp_step rfl (fun K hK => ?_)
            go_simp
            with_reducible refine (l04Mod_any A 72 (by have := HAB.out; omega) (by omega) X10).mono ?_
            rintro e X11 ⟨rfl, hw⟩
            subst hw
            refine hK _ _ ⟨HD9.out.fl, ?_⟩
            try simp only [Act.put, List.setIfInBounds_toArray, List.set_cons_zero, List.set_cons_succ]
            clear hK K
            refine wpAnyH_takeD (some 68) (i := 12) (v := ?_) rfl rfl (by kernel_rfl) (by kernel_rfl) (by kernel_rfl) (fun _ _ _ h => h) (.inl ⟨by kernel_rfl, ?_⟩) HD9.out.fl ?_
            rotate_left
            · intro w' hw'; have e0 := Row.cell hw' 0; simp only [List.getElem?_cons_zero, List.getElem?_cons_succ] at e0; clear hw'; go_simp; try with_reducible rfl
            try simp only [Act.put, List.setIfInBounds_toArray, List.set_cons_zero, List.set_cons_succ]
            refine wpAnyH_all (rs := [13]) (by kernel_rfl) (by simp) ?_
            intro i hi; simp only [List.mem_cons, List.not_mem_nil, or_false] at hi
            subst hi
            refine wpOp_step rfl (fun K hK => ?_)
            have fw : X10.frozen? ⟨L + 1, 1, none⟩ = false := HD9.out.rr.frozen 1
            have ow1 : X10.cell? ⟨L + 1, 1, none⟩ = some (.int .i64 u) := HD9.out.rr.cell 1
            go_simp
            refine hK _ _ ⟨((HD9.out.val (u' := A % 72)).fl), ?_⟩
            try simp only [Act.put, List.setIfInBounds_toArray, List.set_cons_zero, List.set_cons_succ]
            clear fw ow1
            clear hK K
            refine wpAnyH_done (by kernel_rfl) ?_ _
            have hmb : 0 ≤ A % 72 ∧ A % 72 < 72 := by omega
            have hD12 := HD9.out.val (u' := A % 72)
            obtain ⟨u', hu'⟩ : ∃ q, A % 72 = q := ⟨_, rfl⟩
            rw [hu'] at hmb hD12 ⊢
            obtain ⟨X12, hX12⟩ : ∃ X, X = X10.setCell ⟨L + 1, 1, none⟩ (.int .i64 u') := ⟨_, rfl⟩
            rw [← hX12] at hD12 ⊢
            have HO12 := hid (one_any g j8 zs 8 X12 hD12.src (by have := HJ8.out; have := HJK.out; omega) (by omega))
            have HD12 := hid hD12; have HU2 := hid hmb
            clear hX12 hD12 hmb hu' wp' wm wu HD9 HAB HPB
            go_wp2_with fail
            with_reducible refine HO12.out.mono ?_
            rintro e X13 ⟨b, j9, rfl, hj, hj2, hS, hO⟩
            have HD13 := hid (HD12.out.only hO hS)
            have HJ9 := hid (show j9 ≤ j + 10 by have := HJ8.out; omega)
            clear hS hO hj hj2 HO12 HD12 HJ8
            cases b with
            | true =>
              have HP14 := hid (pick_any g j9 zs 72 X13 HD13.out.src (by have := HJ9.out; have := HJK.out; omega) (by omega))
              go_wp2_with fail
              with_reducible refine HP14.out.mono ?_
              rintro e X14 ⟨q, j10, q0, q1, rfl, hj, hj2, hS, hO⟩
              have hD14 := HD13.out.only hO hS
              have f1 := hD14.rr.frozen 1
              have c1 := hD14.rr.cell 1
              simp only [List.getElem?_cons_zero, List.getElem?_cons_succ] at c1
              have HD15 := hid (hD14.val (u' := q))
              have HUQ := hid (show 0 ≤ q ∧ q < 72 by omega)
              have HJ10 := hid (show j10 ≤ j + 12 by have := HJ9.out; omega)
              clear hS hO hj hj2 hD14 q0 q1 HP14
              go_wp2_with fail
              go_roundw
              case rel => exact ⟨k - 1, j10, v', js', d', q, HK2.out, by have := HJ10.out; have := HJK.out; omega, by rw [show ((k - 1 : Nat) : Int) = (k : Int) - 1 by omega], rfl, HLP2.out, HUQ.out, HD15.out⟩
              case measure => simp [intOf]; omega
            | false =>
              go_wp2_with fail
              go_roundw
              case rel => exact ⟨k - 1, j9, v', js', d', u', HK2.out, by have := HJ9.out; have := HJK.out; omega, by rw [show ((k - 1 : Nat) : Int) = (k : Int) - 1 by omega], rfl, HLP2.out, HU2.out, HD13.out⟩
              case measure => simp [intOf]; omega
      · obtain rfl : k = 0 := by omega
        have HQ := hid (And.intro hk (And.intro hLP hD))
        clear hk hLP hD hjk hu hd0 hd9
        go_wp2_with fail
        refine bodyPost_ret (v := .tuple #[.slice (some ⟨R + 2, 0, none⟩) 3 3, v]) (by simp [results, Try.results17, go_sem]) rfl ?_
        obtain ⟨hk, hLP, hh⟩ := HQ.out
        have := hh.1
        exact ⟨[6, 4, 3], js, d, v, R + 2, L, rfl, .inr (.inl rfl), by have := KB.out; omega, by rw [wz]; exact hLP, hh.2.2.1, by omega, by omega, hh.2.2.2.2.2.1, hh.2.2.2.2.2.2.2, hh.1.2.2.2.2.2.2, hh.2.2.2.2.2.2.1.2⟩
  · obtain ⟨V2, hV2⟩ : ∃ X, X = w2 := ⟨_, rfl⟩
    have OT := hid (show Oth g w V2 from by rw [hV2]; exact OT.out)
    have e0 : (x == 0) = false := by simpa using hx.1
    have e1 : (x == 1) = false := by simpa using hx.2
    have rB2 := rB; have rR2 := rR; have b2 := bb; have s3 := s2; have src2 := SRC.out
    rw [← hV2] at rB2 rR2 b2 s3 src2
    have HV2 := hid hV2
    clear s2 rR rB bb hV2 SRC hx
    have st2 := stk_row (zs := [10, 10]) rB2 (by decide) (by decide)
    have wz : szL [10, 10] = 100 := by decide
    have HSZ := hid (l01Size_is (R + 1) 2 2 [10, 10] rfl (by decide) V2 st2)
    rw [wz] at HSZ
    have rR3 := rR2.alloc (.cells #[] 38)
    have rB3 := rB2.alloc (.cells #[] 38)
    have b3 := b2.alloc (by have := HGR.out; omega) (.cells #[] 38)
    have src3 := src2.below ((Below.refl (g + 1) V2).alloc (by have := HGR.out; omega) (.cells #[] 38)) (by omega)
    obtain ⟨L, hL⟩ : ∃ L, V2.heap.size = L := ⟨_, rfl⟩
    have o3 : (V2.alloc (.cells #[] 38)).ownsRow L 38 2 (.slice (some ⟨V2.heap.size, 0, none⟩) 0 0) 0 [] := World.ownsRow_made _ _ 0 (by omega) (by decide) rfl
    have s4 : (V2.alloc (.cells #[] 38)).heap.size = L + 1 := by simp [hL]
    have hRL : R < L ∧ R + 1 < L := by omega
    rw [hL] at o3
    obtain ⟨V3, hV3⟩ : ∃ X, X = V2.alloc (.cells #[] 38) := ⟨_, rfl⟩
    have OT := hid (show Oth g w V3 from by rw [hV3]; exact OT.out.on ((Below.refl V2.heap.size V2).alloc (Nat.le_refl _) _) OT.out.1)
    rw [← hV3] at rR3 rB3 b3 src3 o3 s4
    have HP3 := hid (pick_any g j zs 5 V3 src3 (by have := J0.out; omega) (by omega))
    have HV3 := hid hV3; have HLL := hid hL; have RR3 := hid rR3; have RB3 := hid rB3; have B3 := hid b3; have O3 := hid o3; have S4 := hid s4; have HRL := hid hRL
    clear st2 rR2 rB2 b2 src2 rR3 rB3 b3 src3 o3 s4 hRL hL hV3 s3
    go_upto_region 7 with fail
    rw [← HV2.out]
    clear e0 e1
    go_wp2_with fail
    with_reducible refine HSZ.out.mono ?_
    rintro e w3 ⟨rfl, hw⟩
    subst hw
    go_upto_region 9 with fail
    rw [← HV3.out, HLL.out]
    go_wp2_with fail
    with_reducible refine HP3.out.mono ?_
    rintro e w4 ⟨d0, j4, d00, d01, rfl, hj, hj2, hS, hO⟩
    have rR := hO.row RR3.out (by have := HGR.out; omega)
    have rB := hO.row RB3.out (by have := HGR.out; omega)
    have bb := B3.out.trans hO.2.2
    have ow := owns_only O3.out hO (by have := HGR.out; have := HRL.out; omega)
    have OT := hid (OT.out.only hO)
    have s5 : w4.heap.size = L + 1 := by rw [hO.1]; exact S4.out
    have HP4 := hid (pick_any g j4 zs 100 w4 hS (by have := J0.out; omega) (by omega))
    have RR3 := hid rR; have RB3 := hid rB; have B3 := hid bb; have O3 := hid ow; have S4 := hid s5; have J4 := hid (show j4 ≤ 104 by have := J0.out; omega)
    have D0 := hid (show 0 ≤ d0 ∧ d0 ≤ 4 by omega)
    clear hS hO hj hj2 d00 d01 rR rB bb ow s5 J0 HP3 HSZ
    go_wp2_with fail
    with_reducible refine HP4.out.mono ?_
    rintro e w5 ⟨u0, j5, u00, u01, rfl, hj, hj2, hS, hO⟩
    have rR := hO.row RR3.out (by have := HGR.out; omega)
    have rB := hO.row RB3.out (by have := HGR.out; omega)
    have bb := B3.out.trans hO.2.2
    have ow := owns_only O3.out hO (by have := HGR.out; have := HRL.out; omega)
    have OT := hid (OT.out.only hO)
    have s6 : w5.heap.size = L + 1 := by rw [hO.1]; exact S4.out
    have U0 := hid (show 0 ≤ u0 ∧ u0 < 100 by omega)
    have rr := Row.new w5 38 [.int .i64 d0, .int .i64 u0]
    have DS0 : DS g R (R + 1) (L + 1) L lo hi' [10, 10] zs d0 u0 [] (.slice (some ⟨L, 0, none⟩) 0 0) j5 w (w5.alloc (.cells #[.int .i64 d0, .int .i64 u0] 38)) := by
      have h1 := HGR.out; have h2 := HRL.out
      have lt5 := rR.lt
      refine ⟨⟨h1, by omega, h2.1, h2.2, by omega, by have := HRW.out; omega, OT.out.on ((Below.refl w5.heap.size w5).alloc (Nat.le_refl _) _) OT.out.1⟩, rR.alloc _, rB.alloc _, ?_, hS.below ((Below.refl (g + 1) w5).alloc (by omega) _) (by omega), ow.alloc _, ?_, bb.alloc (by omega) _⟩
      · rw [← s6]; exact rr
      · exact ⟨fun k hk => by cases hk; show L ≠ L + 1; omega, by simp [Value.ownBlock]⟩
    obtain ⟨V5, hV5⟩ : ∃ X, X = w5.alloc (.cells #[.int .i64 d0, .int .i64 u0] 38) := ⟨_, rfl⟩
    rw [← hV5] at DS0
    have HP5 := hid (pick_any g j5 zs 9 V5 DS0.src (by have := J4.out; omega) (by omega))
    have HV5 := hid hV5; have HDS := hid DS0; have S6 := hid s6; have J5 := hid (show j5 ≤ 106 by have := J4.out; omega)
    clear hS hO hj hj2 u00 u01 rR rB bb ow s6 rr DS0 hV5 J4 HP4 RR3 RB3 B3 O3 S4
    go_upto_region 10 with fail
    rw [← HV5.out, S6.out]
    go_wp2_with fail
    with_reducible refine HP5.out.mono ?_
    rintro e w6 ⟨x, j6, x0, x1, rfl, hj, hj2, hS, hO⟩
    obtain ⟨K, rfl⟩ : ∃ K : Nat, x = K := ⟨x.toNat, by omega⟩
    have HDS6 := hid (HDS.out.only hO hS)
    have KB := hid (show K ≤ 8 by omega); have J6 := hid (show j6 ≤ 108 by have := J5.out; omega)
    have HLP := hid (LogP.nil 100 d0 D0.out)
    clear hS hO hj hj2 x0 x1 J5 HP5 HDS HV5
    go_wp2_with fail
    go_loopw [8, 10] (fun s8 s10 wr => ∃ (k j : Nat) (v : Value) (js : List (Int × Int)) (d u : Int), js.length + k = K ∧ j + 14 * k ≤ 230 ∧ s10 = .int .i64 k ∧ v = s8 ∧ LogP 100 js d ∧ (0 ≤ u ∧ u < 100) ∧ DS g R (R + 1) (L + 1) L lo hi' [10, 10] zs d u js v j w wr) (fun _ s10 _ => (intOf s10).toNat)
    case atStart => exact ⟨K, j6, _, [], d0, u0, by simp, by have := J6.out; have := KB.out; omega, rfl, rfl, HLP.out, U0.out, HDS6.out⟩
    case round =>
      obtain ⟨k, j, v, js, d, u, hk, hjk, rfl, rfl, hLP, hu, hD⟩ := hrel
      have LPd := hLP
      obtain ⟨_, _, hd0, hd9⟩ := LPd
      by_cases hk0 : 0 < k
      · have k1 : (0 : Int) < (k : Int) := by omega
        have w1' : IntKind.i64.wrap ((k : Int) - 1) = (k : Int) - 1 := IntWalk.i64_in _ (by omega)
        have HJK := hid hjk; have HK := hid hk; have HLP1 := hid hLP; have HU := hid hu; have HDD := hid (show 0 ≤ d ∧ d ≤ 40 by have := KB.out; omega)
        have rr := hD.rr
        have x0 := rr.cell 0; have x1 := rr.cell 1
        simp only [List.getElem?_cons_zero, List.getElem?_cons_succ] at x0 x1
        have rx := Row.new wr 38 [.int .i64 d, .int .i64 u]
        have hD1 := hD.alloc (.cells #[.int .i64 d, .int .i64 u] 38)
        obtain ⟨Rx, hRx⟩ : ∃ q, wr.heap.size = q := ⟨_, rfl⟩
        have hRx2 : L + 1 < Rx := by rw [← hRx]; exact rr.lt
        have hvx : ∀ kk, v.ownBlock = some kk → kk ≠ Rx := fun kk e => by have := (hD.ow.lt kk e).2; omega
        rw [hRx] at rx
        obtain ⟨X1, hX1⟩ : ∃ X, X = wr.alloc (.cells #[.int .i64 d, .int .i64 u] 38) := ⟨_, rfl⟩
        rw [← hX1] at rx hD1
        have HO1 := hid (one_any g j zs 6 X1 hD1.src (by omega) (by omega))
        have HX1 := hid hX1; have HRX := hid hRx; have HD1 := hid hD1; have RX := hid rx; have HRX2 := hid hRx2; have HVX := hid hvx
        clear hjk hk hLP hu hD hd0 hd9 rr rx hD1 hRx hRx2 hvx hX1 hk0
        go_upto_region 14 with fail
        rw [← HX1.out, HRX.out]
        clear x0 x1
        go_wp2_with fail
        with_reducible refine HO1.out.mono ?_
        rintro e X2 ⟨b, j2, rfl, hj, hj2, hS, hO⟩
        have HD2 := hid (HD1.out.only hO hS)
        have RX2 := hid (hO.row RX.out (by have := HD1.out.1; have := HRX2.out; omega))
        have HJ2 := hid (show j2 ≤ j + 2 from hj2)
        clear hS hO hj hj2 HO1 HD1 RX HX1
        cases b with
        | true =>
          have HP3 := hid (pick_any g j2 zs 100 X2 HD2.out.src (by have := HJ2.out; have := HJK.out; omega) (by omega))
          go_wp2_with fail
          with_reducible refine HP3.out.mono ?_
          rintro e X3 ⟨y, j3, y0, y1, rfl, hj, hj2, hS, hO⟩
          have hrx := hO.row RX2.out (by have := HD2.out.1; have := HRX2.out; omega)
          have fx := hrx.frozen 1
          have e0 := hrx.cell 0; have e1 := hrx.cell 1
          simp only [List.getElem?_cons_zero, List.getElem?_cons_succ] at e0 e1
          have hrx4 := hrx.set 1 (.int .i64 y)
          simp only [List.set_cons_zero, List.set_cons_succ] at hrx4
          have hD4 := (HD2.out.only hO hS).far (p := Rx) (i := 1) (x := .int .i64 y) HRX2.out HVX.out
          obtain ⟨X4, hX4⟩ : ∃ X, X = X3.setCell ⟨Rx, 1, none⟩ (.int .i64 y) := ⟨_, rfl⟩
          rw [← hX4] at hrx4 hD4
          have HX4 := hid hX4; have HY := hid (show 0 ≤ y ∧ y < 100 by omega); have HJ3 := hid (show j3 ≤ j + 4 by have := HJ2.out; omega)
          have RX4 := hid hrx4; have HD4 := hid hD4
          clear hS hO hj hj2 y0 y1 hrx hrx4 hD4 hX4 HP3 HD2 RX2 HJ2
          go_upto_region 16 with fail
          rw [← HX4.out]
          clear e0 e1 fx HX4
          have hD4 := HD4.out
          have hrx := RX4.out
          have x0 := hrx.cell 0; have x1 := hrx.cell 1
          simp only [List.getElem?_cons_zero, List.getElem?_cons_succ] at x0 x1
          have hD5 := hD4.alloc (.cells #[.int .i64 d, .int .i64 y] 38)
          have news := Row.new X4 38 [.int .i64 d, .int .i64 y]
          have nc := hid (show ∀ j u, ([.int .i64 d, .int .i64 y] : List Value)[j]? = some u → (X4.alloc (.cells #[.int .i64 d, .int .i64 y] 38)).cell? ((⟨X4.heap.size, 0, none⟩ : Addr).add j) = some u from fun j u hj => by
            rw [show (⟨X4.heap.size, 0, none⟩ : Addr).add j = ⟨X4.heap.size, j, none⟩ from by unfold Addr.add; split <;> simp_all]
            exact (news.cell j).trans hj)
          have HONE := hid (show ∀ u ∈ ([.int .i64 d, .int .i64 y] : List Value), u.oneCell' = true from by intro u hu; simp at hu; rcases hu with rfl | rfl <;> rfl)
          have HO5 := hid (show (X4.alloc (.cells #[.int .i64 d, .int .i64 y] 38)).ownsRow L 38 2 v js.length (tvals js) from hD5.ow)
          have HLN := hid (show js.length ≤ 8 by have := HK.out; have := KB.out; omega)
          have HBW := hid (show L ≤ (X4.alloc (.cells #[.int .i64 d, .int .i64 y] 38)).heap.size by have := hD5.rr.lt; omega)
          have HD5 := hid hD5
          clear hD4 hrx hD5 news
          go_wp2_with (at_builtin; refine wpList_append_own_at _ rfl _ _ 25 rfl L 38 i0 (.agg #[.int .i64 0, .int .i64 0]) 2 16 Try.underlying25 hi0 iz0 iz1 iz2 rfl (by decide) _ _ _ rfl HO5.out ⟨X4.heap.size, 0, none⟩ 1 1 ([.int .i64 d, .int .i64 y] : List Value) rfl rfl nc.out HONE.out (by have := HLN.out; unfold maxLen; omega) (by have := HLN.out; omega) HBW.out ?_; rintro v' X6 hown' hgrow - hblk; have OWN := hid hown'; have GRW := hid hgrow; have BLK := hid hblk; clear hown' hgrow hblk)
          have OW := OWN.out
          rw [← tvals_snocG js d y, show js.length + 1 = (js ++ [(d, y)]).length by simp] at OW
          have hD6 := HD5.out.app GRW.out OW BLK.out
          have HD6 := hid hD6
          have HP6 := hid (pick_any g j3 zs 4 X6 hD6.src (by have := HJ3.out; have := HJK.out; omega) (by omega))
          clear OW hD6 x0 x1 OWN GRW BLK HBW HONE HO5 HD5 nc
          go_wp2_with fail
          with_reducible refine HP6.out.mono ?_
          rintro e X7 ⟨e4, j7, e0, e1, rfl, hj, hj2, hS, hO⟩
          obtain ⟨E, hE⟩ : ∃ E, 1 + e4 = E := ⟨_, rfl⟩
          have we : IntKind.i64.wrap (1 + e4) = E := (IntWalk.i64_in _ (by omega)).trans hE
          have hEb : 1 ≤ E ∧ E ≤ 4 := by omega
          have hD7 := HD6.out.only hO hS
          have rr := hD7.rr
          have r0 := rr.cell 0; have r1 := rr.cell 1; have f0 := rr.frozen 0; have f1 := rr.frozen 1
          simp only [List.getElem?_cons_zero, List.getElem?_cons_succ] at r0 r1
          obtain ⟨d', hd'⟩ : ∃ q, d + E = q := ⟨_, rfl⟩
          have wd : IntKind.i64.wrap (d + E) = d' := by rw [IntWalk.i64_in _ (by have := HDD.out; omega)]; exact hd'
          have hD8 := hD7.day (d' := d')
          have HLP2 := hid (show LogP 100 (js ++ [(d, y)]) d' by rw [← hd']; exact HLP1.out.snoc HY.out hEb)
          obtain ⟨X8, hX8⟩ : ∃ X, X = X7.setCell ⟨L + 1, 0, none⟩ (.int .i64 d') := ⟨_, rfl⟩
          rw [← hX8] at hD8
          have HX8 := hid hX8; have HD8 := hid hD8; have HJ7 := hid (show j7 ≤ j + 6 by have := HJ3.out; omega); have HE := hid hEb
          clear hS hO hj hj2 hD7 hD8 rr hX8 HP6 HD6 hd' hE e0 e1 hEb HJ3
          go_upto_region 19 with fail
          rw [← HX8.out]
          clear r0 r1 f0 f1 wd HX8 we
          obtain ⟨js', hjs⟩ : ∃ q, js ++ [(d, y)] = q := ⟨_, rfl⟩
          have HK2 := hid (show js'.length + (k - 1) = K by rw [← hjs]; simp; have := HK.out; omega)
          rw [hjs] at HD8 HLP2
          clear hjs HLP1 HRX HRX2 HVX RX4 HD4
          refine wp_region_held (S := fun W' : World => Row W' R 27 [.int .i64 lo, .int .i64 hi']) (by kernel_rfl) ?_
          change wpAnyH _ _ _ _ _ _ _ _ (World.drew _)
          obtain ⟨X9, hX9⟩ : ∃ X, X = World.drew X8 := ⟨_, rfl⟩
          have HD9 := hid (show DS g R (R + 1) (L + 1) L lo hi' [10, 10] zs d' u js' v' j7 w X9 from by
            obtain ⟨h1, h2, h3, h4, h5, h6, h7, h8⟩ := HD8.out
            have bD : Below X8.heap.size X8 X9 := by rw [hX9]; exact (Below.refl _ _).drew
            have hg : g < X8.heap.size := by have := h2.lt; omega
            exact ⟨⟨h1.1, h1.2.1, h1.2.2.1, h1.2.2.2.1, h1.2.2.2.2.1, h1.2.2.2.2.2.1, h1.2.2.2.2.2.2.on bD h1.2.2.2.2.2.2.1⟩, h2.below bD h2.lt, h3.below bD h3.lt, h4.below bD h4.lt, h5.below bD hg, by rw [hX9]; exact h6, h7, by rw [hX9]; exact h8.drew⟩)
          rw [← hX9]
          clear hX9 HD8
          refine wpAnyH_takeD (some 56) (i := 0) (v := ?_) rfl rfl (by kernel_rfl) (by kernel_rfl) (by kernel_rfl) (fun _ _ _ h => h) (.inl ⟨by kernel_rfl, ?_⟩) HD9.out.fl ?_
          rotate_left
          · intro w' hw'; have e0 := Row.cell hw' 0; simp only [List.getElem?_cons_zero, List.getElem?_cons_succ] at e0; clear hw'; go_simp; try with_reducible rfl
          try simp only [Act.put, List.setIfInBounds_toArray, List.set_cons_zero, List.set_cons_succ]
          refine wpAnyH_takeD (some 58) (i := 2) (v := ?_) rfl rfl (by kernel_rfl) (by kernel_rfl) (by kernel_rfl) (fun _ _ _ h => h) (.inl ⟨by kernel_rfl, ?_⟩) HD9.out.fl ?_
          rotate_left
          · intro w' hw'; go_simp; try with_reducible rfl
          try simp only [Act.put, List.setIfInBounds_toArray, List.set_cons_zero, List.set_cons_succ]
          refine wpAnyH_takeD (some 59) (i := 3) (v := ?_) rfl rfl (by kernel_rfl) (by kernel_rfl) (by kernel_rfl) (fun _ _ _ h => h) (.inl ⟨by kernel_rfl, ?_⟩) HD9.out.fl ?_
          rotate_left
          · intro w' hw'; have e0 := Row.cell hw' 0; simp only [List.getElem?_cons_zero, List.getElem?_cons_succ] at e0; clear hw'; go_simp; try with_reducible rfl
          try simp only [Act.put, List.setIfInBounds_toArray, List.set_cons_zero, List.set_cons_succ]
          refine wpAnyH_takeD (some 60) (i := 4) (v := ?_) rfl rfl (by kernel_rfl) (by kernel_rfl) (by kernel_rfl) (fun _ _ _ h => h) (.inl ⟨by kernel_rfl, ?_⟩) HD9.out.fl ?_
          rotate_left
          · intro w' hw'; have e0 := Row.cell hw' 0; simp only [List.getElem?_cons_zero, List.getElem?_cons_succ] at e0; clear hw'; go_simp; try with_reducible rfl
          try simp only [Act.put, List.setIfInBounds_toArray, List.set_cons_zero, List.set_cons_succ]
          refine wpAnyH_takeD (some 61) (i := 5) (v := ?_) rfl rfl (by kernel_rfl) (by kernel_rfl) (by kernel_rfl) (fun _ _ _ h => h) (.inl ⟨by kernel_rfl, ?_⟩) HD9.out.fl ?_
          rotate_left
          · intro w' hw'; go_simp; try with_reducible rfl
          try simp only [Act.put, List.setIfInBounds_toArray, List.set_cons_zero, List.set_cons_succ]
          refine wpAnyH_takeD (some 66) (i := 10) (v := ?_) rfl rfl (by kernel_rfl) (by kernel_rfl) (by kernel_rfl) (fun _ _ _ h => h) (.inl ⟨by kernel_rfl, ?_⟩) HD9.out.fl ?_
          rotate_left
          · intro w' hw'; go_simp; try with_reducible rfl
          try simp only [Act.put, List.setIfInBounds_toArray, List.set_cons_zero, List.set_cons_succ]
          refine wpAnyH_all (rs := [1, 6]) (by kernel_rfl) (by simp) ?_
          intro i hi; simp only [List.mem_cons, List.not_mem_nil, or_false] at hi
          rcases hi with rfl | rfl
          · refine wpOp_step rfl (fun K hK => ?_)
            have cw : X9.cell? ⟨L + 1, 1, none⟩ = some (.int .i64 u) := HD9.out.rr.cell 1
            go_simp
            refine hK _ _ ⟨HD9.out.fl, ?_⟩
            try simp only [Act.put, List.setIfInBounds_toArray, List.set_cons_zero, List.set_cons_succ]
            clear cw
            clear hK K
            refine wpAnyH_all (rs := [6]) (by kernel_rfl) (by simp) ?_
            intro i hi; simp only [List.mem_cons, List.not_mem_nil, or_false] at hi
            subst hi
            refine wpOp_step rfl (fun K hK => ?_)
            go_simp
            with_reducible refine (pick_any g j7 zs 12 X9 HD9.out.src (by have := HJ7.out; have := HJK.out; omega) (by omega)).mono ?_
            rintro e X10 ⟨p, j8, p0, p1, rfl, hj, hj2, hS, hO⟩
            replace HD9 := hid (HD9.out.only hO hS)
            have HPB := hid (show 0 ≤ p ∧ p ≤ 11 by omega)
            obtain ⟨Q, hQ⟩ : ∃ q, lo + p = q := ⟨_, rfl⟩
            have wp' : IntKind.i64.wrap (lo + p) = Q := (IntWalk.i64_in _ (by have := HLO.out; omega)).trans hQ
            have qb : 0 ≤ Q ∧ Q ≤ 1011 := by have := HLO.out; omega
            have m0 : 0 ≤ E * Q := Int.mul_nonneg (by have := HE.out; omega) qb.1
            have m1 : E * Q ≤ 4 * 1011 := Int.mul_le_mul HE.out.2 qb.2 qb.1 (by omega)
            obtain ⟨M, hM⟩ : ∃ q, E * Q = q := ⟨_, rfl⟩
            have wm : IntKind.i64.wrap (E * Q) = M := (IntWalk.i64_in _ (by omega)).trans hM
            rw [hM] at m0 m1
            obtain ⟨A, hA⟩ : ∃ q, u + M = q := ⟨_, rfl⟩
            have wu : IntKind.i64.wrap (u + M) = A := (IntWalk.i64_in _ (by have := HU.out; omega)).trans hA
            have HAB := hid (show 0 ≤ A ∧ A ≤ 10000 by have := HU.out; omega)
            have HJ8 := hid (show j8 ≤ j + 8 by have := HJ7.out; omega)
            clear hS hO hj hj2 p0 p1 qb m0 m1 hQ hM hA
            refine hK _ _ ⟨HD9.out.fl, ?_⟩
            try simp only [Act.put, List.setIfInBounds_toArray, List.set_cons_zero, List.set_cons_succ]
            clear hK K
            refine wpAnyH_takeD (some 63) (i := 7) (v := ?_) rfl rfl (by kernel_rfl) (by kernel_rfl) (by kernel_rfl) (fun _ _ _ h => h) (.inl ⟨by kernel_rfl, ?_⟩) HD9.out.fl ?_
            rotate_left
            · intro w' hw'; go_simp; try with_reducible rfl
            try simp only [Act.put, List.setIfInBounds_toArray, List.set_cons_zero, List.set_cons_succ]
            refine wpAnyH_takeD (some 64) (i := 8) (v := ?_) rfl rfl (by kernel_rfl) (by kernel_rfl) (by kernel_rfl) (fun _ _ _ h => h) (.inl ⟨by kernel_rfl, ?_⟩) HD9.out.fl ?_
            rotate_left
            · intro w' hw'; go_simp; try with_reducible rfl
            try simp only [Act.put, List.setIfInBounds_toArray, List.set_cons_zero, List.set_cons_succ]
            refine wpAnyH_takeD (some 65) (i := 9) (v := ?_) rfl rfl (by kernel_rfl) (by kernel_rfl) (by kernel_rfl) (fun _ _ _ h => h) (.inl ⟨by kernel_rfl, ?_⟩) HD9.out.fl ?_
            rotate_left
            · intro w' hw'; go_simp; try with_reducible rfl
            try simp only [Act.put, List.setIfInBounds_toArray, List.set_cons_zero, List.set_cons_succ]
            refine wpAnyH_all (rs := [11]) (by kernel_rfl) (by simp) ?_
            intro i hi; simp only [List.mem_cons, List.not_mem_nil, or_false] at hi
            subst hi
            refine wpOp_step rfl (fun K hK => ?_)
            go_simp
            with_reducible refine (l04Mod_any A 100 (by have := HAB.out; omega) (by omega) X10).mono ?_
            rintro e X11 ⟨rfl, hw⟩
            subst hw
            refine hK _ _ ⟨HD9.out.fl, ?_⟩
            try simp only [Act.put, List.setIfInBounds_toArray, List.set_cons_zero, List.set_cons_succ]
            clear hK K
            refine wpAnyH_takeD (some 68) (i := 12) (v := ?_) rfl rfl (by kernel_rfl) (by kernel_rfl) (by kernel_rfl) (fun _ _ _ h => h) (.inl ⟨by kernel_rfl, ?_⟩) HD9.out.fl ?_
            rotate_left
            · intro w' hw'; have e0 := Row.cell hw' 0; simp only [List.getElem?_cons_zero, List.getElem?_cons_succ] at e0; clear hw'; go_simp; try with_reducible rfl
            try simp only [Act.put, List.setIfInBounds_toArray, List.set_cons_zero, List.set_cons_succ]
            refine wpAnyH_all (rs := [13]) (by kernel_rfl) (by simp) ?_
            intro i hi; simp only [List.mem_cons, List.not_mem_nil, or_false] at hi
            subst hi
            refine wpOp_step rfl (fun K hK => ?_)
            have fw : X10.frozen? ⟨L + 1, 1, none⟩ = false := HD9.out.rr.frozen 1
            have ow1 : X10.cell? ⟨L + 1, 1, none⟩ = some (.int .i64 u) := HD9.out.rr.cell 1
            go_simp
            refine hK _ _ ⟨((HD9.out.val (u' := A % 100)).fl), ?_⟩
            try simp only [Act.put, List.setIfInBounds_toArray, List.set_cons_zero, List.set_cons_succ]
            clear fw ow1
            clear hK K
            refine wpAnyH_done (by kernel_rfl) ?_ _
            have hmb : 0 ≤ A % 100 ∧ A % 100 < 100 := by omega
            have hD12 := HD9.out.val (u' := A % 100)
            obtain ⟨u', hu'⟩ : ∃ q, A % 100 = q := ⟨_, rfl⟩
            rw [hu'] at hmb hD12 ⊢
            obtain ⟨X12, hX12⟩ : ∃ X, X = X10.setCell ⟨L + 1, 1, none⟩ (.int .i64 u') := ⟨_, rfl⟩
            rw [← hX12] at hD12 ⊢
            have HO12 := hid (one_any g j8 zs 8 X12 hD12.src (by have := HJ8.out; have := HJK.out; omega) (by omega))
            have HD12 := hid hD12; have HU2 := hid hmb
            clear hX12 hD12 hmb hu' wp' wm wu HD9 HAB HPB
            go_wp2_with fail
            with_reducible refine HO12.out.mono ?_
            rintro e X13 ⟨b, j9, rfl, hj, hj2, hS, hO⟩
            have HD13 := hid (HD12.out.only hO hS)
            have HJ9 := hid (show j9 ≤ j + 10 by have := HJ8.out; omega)
            clear hS hO hj hj2 HO12 HD12 HJ8
            cases b with
            | true =>
              have HP14 := hid (pick_any g j9 zs 100 X13 HD13.out.src (by have := HJ9.out; have := HJK.out; omega) (by omega))
              go_wp2_with fail
              with_reducible refine HP14.out.mono ?_
              rintro e X14 ⟨q, j10, q0, q1, rfl, hj, hj2, hS, hO⟩
              have hD14 := HD13.out.only hO hS
              have f1 := hD14.rr.frozen 1
              have c1 := hD14.rr.cell 1
              simp only [List.getElem?_cons_zero, List.getElem?_cons_succ] at c1
              have HD15 := hid (hD14.val (u' := q))
              have HUQ := hid (show 0 ≤ q ∧ q < 100 by omega)
              have HJ10 := hid (show j10 ≤ j + 12 by have := HJ9.out; omega)
              clear hS hO hj hj2 hD14 q0 q1 HP14
              go_wp2_with fail
              go_roundw
              case rel => exact ⟨k - 1, j10, v', js', d', q, HK2.out, by have := HJ10.out; have := HJK.out; omega, by rw [show ((k - 1 : Nat) : Int) = (k : Int) - 1 by omega], rfl, HLP2.out, HUQ.out, HD15.out⟩
              case measure => simp [intOf]; omega
            | false =>
              go_wp2_with fail
              go_roundw
              case rel => exact ⟨k - 1, j9, v', js', d', u', HK2.out, by have := HJ9.out; have := HJK.out; omega, by rw [show ((k - 1 : Nat) : Int) = (k : Int) - 1 by omega], rfl, HLP2.out, HU2.out, HD13.out⟩
              case measure => simp [intOf]; omega
          · refine wpOp_step rfl (fun K hK => ?_)
            go_simp
            with_reducible refine (pick_any g j7 zs 12 X9 HD9.out.src (by have := HJ7.out; have := HJK.out; omega) (by omega)).mono ?_
            rintro e X10 ⟨p, j8, p0, p1, rfl, hj, hj2, hS, hO⟩
            replace HD9 := hid (HD9.out.only hO hS)
            have HPB := hid (show 0 ≤ p ∧ p ≤ 11 by omega)
            obtain ⟨Q, hQ⟩ : ∃ q, lo + p = q := ⟨_, rfl⟩
            have wp' : IntKind.i64.wrap (lo + p) = Q := (IntWalk.i64_in _ (by have := HLO.out; omega)).trans hQ
            have qb : 0 ≤ Q ∧ Q ≤ 1011 := by have := HLO.out; omega
            have m0 : 0 ≤ E * Q := Int.mul_nonneg (by have := HE.out; omega) qb.1
            have m1 : E * Q ≤ 4 * 1011 := Int.mul_le_mul HE.out.2 qb.2 qb.1 (by omega)
            obtain ⟨M, hM⟩ : ∃ q, E * Q = q := ⟨_, rfl⟩
            have wm : IntKind.i64.wrap (E * Q) = M := (IntWalk.i64_in _ (by omega)).trans hM
            rw [hM] at m0 m1
            obtain ⟨A, hA⟩ : ∃ q, u + M = q := ⟨_, rfl⟩
            have wu : IntKind.i64.wrap (u + M) = A := (IntWalk.i64_in _ (by have := HU.out; omega)).trans hA
            have HAB := hid (show 0 ≤ A ∧ A ≤ 10000 by have := HU.out; omega)
            have HJ8 := hid (show j8 ≤ j + 8 by have := HJ7.out; omega)
            clear hS hO hj hj2 p0 p1 qb m0 m1 hQ hM hA
            refine hK _ _ ⟨HD9.out.fl, ?_⟩
            try simp only [Act.put, List.setIfInBounds_toArray, List.set_cons_zero, List.set_cons_succ]
            clear hK K
            refine wpAnyH_takeD (some 63) (i := 7) (v := ?_) rfl rfl (by kernel_rfl) (by kernel_rfl) (by kernel_rfl) (fun _ _ _ h => h) (.inl ⟨by kernel_rfl, ?_⟩) HD9.out.fl ?_
            rotate_left
            · intro w' hw'; go_simp; try with_reducible rfl
            try simp only [Act.put, List.setIfInBounds_toArray, List.set_cons_zero, List.set_cons_succ]
            refine wpAnyH_takeD (some 64) (i := 8) (v := ?_) rfl rfl (by kernel_rfl) (by kernel_rfl) (by kernel_rfl) (fun _ _ _ h => h) (.inl ⟨by kernel_rfl, ?_⟩) HD9.out.fl ?_
            rotate_left
            · intro w' hw'; go_simp; try with_reducible rfl
            try simp only [Act.put, List.setIfInBounds_toArray, List.set_cons_zero, List.set_cons_succ]
            refine wpAnyH_all (rs := [1]) (by kernel_rfl) (by simp) ?_
            intro i hi; simp only [List.mem_cons, List.not_mem_nil, or_false] at hi
            subst hi
            refine wpOp_step rfl (fun K hK => ?_)
            have cw : X10.cell? ⟨L + 1, 1, none⟩ = some (.int .i64 u) := HD9.out.rr.cell 1
            go_simp
            refine hK _ _ ⟨HD9.out.fl, ?_⟩
            try simp only [Act.put, List.setIfInBounds_toArray, List.set_cons_zero, List.set_cons_succ]
            clear cw
            clear hK K
            refine wpAnyH_takeD (some 65) (i := 9) (v := ?_) rfl rfl (by kernel_rfl) (by kernel_rfl) (by kernel_rfl) (fun _ _ _ h => h) (.inl ⟨by kernel_rfl, ?_⟩) HD9.out.fl ?_
            rotate_left
            · intro w' hw'; go_simp; try with_reducible rfl
            try simp only [Act.put, List.setIfInBounds_toArray, List.set_cons_zero, List.set_cons_succ]
            refine wpAnyH_all (rs := [11]) (by kernel_rfl) (by simp) ?_
            intro i hi; simp only [List.mem_cons, List.not_mem_nil, or_false] at hi
            subst hi
            refine wpOp_step rfl (fun K hK => ?_)
            go_simp
            with_reducible refine (l04Mod_any A 100 (by have := HAB.out; omega) (by omega) X10).mono ?_
            rintro e X11 ⟨rfl, hw⟩
            subst hw
            refine hK _ _ ⟨HD9.out.fl, ?_⟩
            try simp only [Act.put, List.setIfInBounds_toArray, List.set_cons_zero, List.set_cons_succ]
            clear hK K
            refine wpAnyH_takeD (some 68) (i := 12) (v := ?_) rfl rfl (by kernel_rfl) (by kernel_rfl) (by kernel_rfl) (fun _ _ _ h => h) (.inl ⟨by kernel_rfl, ?_⟩) HD9.out.fl ?_
            rotate_left
            · intro w' hw'; have e0 := Row.cell hw' 0; simp only [List.getElem?_cons_zero, List.getElem?_cons_succ] at e0; clear hw'; go_simp; try with_reducible rfl
            try simp only [Act.put, List.setIfInBounds_toArray, List.set_cons_zero, List.set_cons_succ]
            refine wpAnyH_all (rs := [13]) (by kernel_rfl) (by simp) ?_
            intro i hi; simp only [List.mem_cons, List.not_mem_nil, or_false] at hi
            subst hi
            refine wpOp_step rfl (fun K hK => ?_)
            have fw : X10.frozen? ⟨L + 1, 1, none⟩ = false := HD9.out.rr.frozen 1
            have ow1 : X10.cell? ⟨L + 1, 1, none⟩ = some (.int .i64 u) := HD9.out.rr.cell 1
            go_simp
            refine hK _ _ ⟨((HD9.out.val (u' := A % 100)).fl), ?_⟩
            try simp only [Act.put, List.setIfInBounds_toArray, List.set_cons_zero, List.set_cons_succ]
            clear fw ow1
            clear hK K
            refine wpAnyH_done (by kernel_rfl) ?_ _
            have hmb : 0 ≤ A % 100 ∧ A % 100 < 100 := by omega
            have hD12 := HD9.out.val (u' := A % 100)
            obtain ⟨u', hu'⟩ : ∃ q, A % 100 = q := ⟨_, rfl⟩
            rw [hu'] at hmb hD12 ⊢
            obtain ⟨X12, hX12⟩ : ∃ X, X = X10.setCell ⟨L + 1, 1, none⟩ (.int .i64 u') := ⟨_, rfl⟩
            rw [← hX12] at hD12 ⊢
            have HO12 := hid (one_any g j8 zs 8 X12 hD12.src (by have := HJ8.out; have := HJK.out; omega) (by omega))
            have HD12 := hid hD12; have HU2 := hid hmb
            clear hX12 hD12 hmb hu' wp' wm wu HD9 HAB HPB
            go_wp2_with fail
            with_reducible refine HO12.out.mono ?_
            rintro e X13 ⟨b, j9, rfl, hj, hj2, hS, hO⟩
            have HD13 := hid (HD12.out.only hO hS)
            have HJ9 := hid (show j9 ≤ j + 10 by have := HJ8.out; omega)
            clear hS hO hj hj2 HO12 HD12 HJ8
            cases b with
            | true =>
              have HP14 := hid (pick_any g j9 zs 100 X13 HD13.out.src (by have := HJ9.out; have := HJK.out; omega) (by omega))
              go_wp2_with fail
              with_reducible refine HP14.out.mono ?_
              rintro e X14 ⟨q, j10, q0, q1, rfl, hj, hj2, hS, hO⟩
              have hD14 := HD13.out.only hO hS
              have f1 := hD14.rr.frozen 1
              have c1 := hD14.rr.cell 1
              simp only [List.getElem?_cons_zero, List.getElem?_cons_succ] at c1
              have HD15 := hid (hD14.val (u' := q))
              have HUQ := hid (show 0 ≤ q ∧ q < 100 by omega)
              have HJ10 := hid (show j10 ≤ j + 12 by have := HJ9.out; omega)
              clear hS hO hj hj2 hD14 q0 q1 HP14
              go_wp2_with fail
              go_roundw
              case rel => exact ⟨k - 1, j10, v', js', d', q, HK2.out, by have := HJ10.out; have := HJK.out; omega, by rw [show ((k - 1 : Nat) : Int) = (k : Int) - 1 by omega], rfl, HLP2.out, HUQ.out, HD15.out⟩
              case measure => simp [intOf]; omega
            | false =>
              go_wp2_with fail
              go_roundw
              case rel => exact ⟨k - 1, j9, v', js', d', u', HK2.out, by have := HJ9.out; have := HJK.out; omega, by rw [show ((k - 1 : Nat) : Int) = (k : Int) - 1 by omega], rfl, HLP2.out, HU2.out, HD13.out⟩
              case measure => simp [intOf]; omega
        | false =>
          obtain ⟨X4, hX4⟩ : ∃ X, X = X2 := ⟨_, rfl⟩
          obtain ⟨j3, hj3⟩ : ∃ X, X = j2 := ⟨_, rfl⟩
          obtain ⟨y, hy⟩ : ∃ X, X = u := ⟨_, rfl⟩
          have HY := hid (show 0 ≤ y ∧ y < 100 by rw [hy]; exact HU.out); have HJ3 := hid (show j3 ≤ j + 4 by have := HJ2.out; omega)
          have RX4 := hid (show Row X4 Rx 38 [.int .i64 d, .int .i64 y] by rw [hX4, hy]; exact RX2.out); have HD4 := hid (show DS g R (R + 1) (L + 1) L lo hi' [10, 10] zs d u js v j3 w X4 by rw [hX4, hj3]; exact HD2.out)
          go_upto_region 16 with fail
          rw [← hX4]
          clear hX4 hj3 hy HD2 RX2 HJ2
          have hD4 := HD4.out
          have hrx := RX4.out
          have x0 := hrx.cell 0; have x1 := hrx.cell 1
          simp only [List.getElem?_cons_zero, List.getElem?_cons_succ] at x0 x1
          have hD5 := hD4.alloc (.cells #[.int .i64 d, .int .i64 y] 38)
          have news := Row.new X4 38 [.int .i64 d, .int .i64 y]
          have nc := hid (show ∀ j u, ([.int .i64 d, .int .i64 y] : List Value)[j]? = some u → (X4.alloc (.cells #[.int .i64 d, .int .i64 y] 38)).cell? ((⟨X4.heap.size, 0, none⟩ : Addr).add j) = some u from fun j u hj => by
            rw [show (⟨X4.heap.size, 0, none⟩ : Addr).add j = ⟨X4.heap.size, j, none⟩ from by unfold Addr.add; split <;> simp_all]
            exact (news.cell j).trans hj)
          have HONE := hid (show ∀ u ∈ ([.int .i64 d, .int .i64 y] : List Value), u.oneCell' = true from by intro u hu; simp at hu; rcases hu with rfl | rfl <;> rfl)
          have HO5 := hid (show (X4.alloc (.cells #[.int .i64 d, .int .i64 y] 38)).ownsRow L 38 2 v js.length (tvals js) from hD5.ow)
          have HLN := hid (show js.length ≤ 8 by have := HK.out; have := KB.out; omega)
          have HBW := hid (show L ≤ (X4.alloc (.cells #[.int .i64 d, .int .i64 y] 38)).heap.size by have := hD5.rr.lt; omega)
          have HD5 := hid hD5
          clear hD4 hrx hD5 news
          go_wp2_with (at_builtin; refine wpList_append_own_at _ rfl _ _ 25 rfl L 38 i0 (.agg #[.int .i64 0, .int .i64 0]) 2 16 Try.underlying25 hi0 iz0 iz1 iz2 rfl (by decide) _ _ _ rfl HO5.out ⟨X4.heap.size, 0, none⟩ 1 1 ([.int .i64 d, .int .i64 y] : List Value) rfl rfl nc.out HONE.out (by have := HLN.out; unfold maxLen; omega) (by have := HLN.out; omega) HBW.out ?_; rintro v' X6 hown' hgrow - hblk; have OWN := hid hown'; have GRW := hid hgrow; have BLK := hid hblk; clear hown' hgrow hblk)
          have OW := OWN.out
          rw [← tvals_snocG js d y, show js.length + 1 = (js ++ [(d, y)]).length by simp] at OW
          have hD6 := HD5.out.app GRW.out OW BLK.out
          have HD6 := hid hD6
          have HP6 := hid (pick_any g j3 zs 4 X6 hD6.src (by have := HJ3.out; have := HJK.out; omega) (by omega))
          clear OW hD6 x0 x1 OWN GRW BLK HBW HONE HO5 HD5 nc
          go_wp2_with fail
          with_reducible refine HP6.out.mono ?_
          rintro e X7 ⟨e4, j7, e0, e1, rfl, hj, hj2, hS, hO⟩
          obtain ⟨E, hE⟩ : ∃ E, 1 + e4 = E := ⟨_, rfl⟩
          have we : IntKind.i64.wrap (1 + e4) = E := (IntWalk.i64_in _ (by omega)).trans hE
          have hEb : 1 ≤ E ∧ E ≤ 4 := by omega
          have hD7 := HD6.out.only hO hS
          have rr := hD7.rr
          have r0 := rr.cell 0; have r1 := rr.cell 1; have f0 := rr.frozen 0; have f1 := rr.frozen 1
          simp only [List.getElem?_cons_zero, List.getElem?_cons_succ] at r0 r1
          obtain ⟨d', hd'⟩ : ∃ q, d + E = q := ⟨_, rfl⟩
          have wd : IntKind.i64.wrap (d + E) = d' := by rw [IntWalk.i64_in _ (by have := HDD.out; omega)]; exact hd'
          have hD8 := hD7.day (d' := d')
          have HLP2 := hid (show LogP 100 (js ++ [(d, y)]) d' by rw [← hd']; exact HLP1.out.snoc HY.out hEb)
          obtain ⟨X8, hX8⟩ : ∃ X, X = X7.setCell ⟨L + 1, 0, none⟩ (.int .i64 d') := ⟨_, rfl⟩
          rw [← hX8] at hD8
          have HX8 := hid hX8; have HD8 := hid hD8; have HJ7 := hid (show j7 ≤ j + 6 by have := HJ3.out; omega); have HE := hid hEb
          clear hS hO hj hj2 hD7 hD8 rr hX8 HP6 HD6 hd' hE e0 e1 hEb HJ3
          go_upto_region 19 with fail
          rw [← HX8.out]
          clear r0 r1 f0 f1 wd HX8 we
          obtain ⟨js', hjs⟩ : ∃ q, js ++ [(d, y)] = q := ⟨_, rfl⟩
          have HK2 := hid (show js'.length + (k - 1) = K by rw [← hjs]; simp; have := HK.out; omega)
          rw [hjs] at HD8 HLP2
          clear hjs HLP1 HRX HRX2 HVX RX4 HD4
          refine wp_region_held (S := fun W' : World => Row W' R 27 [.int .i64 lo, .int .i64 hi']) (by kernel_rfl) ?_
          change wpAnyH _ _ _ _ _ _ _ _ (World.drew _)
          obtain ⟨X9, hX9⟩ : ∃ X, X = World.drew X8 := ⟨_, rfl⟩
          have HD9 := hid (show DS g R (R + 1) (L + 1) L lo hi' [10, 10] zs d' u js' v' j7 w X9 from by
            obtain ⟨h1, h2, h3, h4, h5, h6, h7, h8⟩ := HD8.out
            have bD : Below X8.heap.size X8 X9 := by rw [hX9]; exact (Below.refl _ _).drew
            have hg : g < X8.heap.size := by have := h2.lt; omega
            exact ⟨⟨h1.1, h1.2.1, h1.2.2.1, h1.2.2.2.1, h1.2.2.2.2.1, h1.2.2.2.2.2.1, h1.2.2.2.2.2.2.on bD h1.2.2.2.2.2.2.1⟩, h2.below bD h2.lt, h3.below bD h3.lt, h4.below bD h4.lt, h5.below bD hg, by rw [hX9]; exact h6, h7, by rw [hX9]; exact h8.drew⟩)
          rw [← hX9]
          clear hX9 HD8
          refine wpAnyH_takeD (some 56) (i := 0) (v := ?_) rfl rfl (by kernel_rfl) (by kernel_rfl) (by kernel_rfl) (fun _ _ _ h => h) (.inl ⟨by kernel_rfl, ?_⟩) HD9.out.fl ?_
          rotate_left
          · intro w' hw'; have e0 := Row.cell hw' 0; simp only [List.getElem?_cons_zero, List.getElem?_cons_succ] at e0; clear hw'; go_simp; try with_reducible rfl
          try simp only [Act.put, List.setIfInBounds_toArray, List.set_cons_zero, List.set_cons_succ]
          refine wpAnyH_takeD (some 58) (i := 2) (v := ?_) rfl rfl (by kernel_rfl) (by kernel_rfl) (by kernel_rfl) (fun _ _ _ h => h) (.inl ⟨by kernel_rfl, ?_⟩) HD9.out.fl ?_
          rotate_left
          · intro w' hw'; go_simp; try with_reducible rfl
          try simp only [Act.put, List.setIfInBounds_toArray, List.set_cons_zero, List.set_cons_succ]
          refine wpAnyH_takeD (some 59) (i := 3) (v := ?_) rfl rfl (by kernel_rfl) (by kernel_rfl) (by kernel_rfl) (fun _ _ _ h => h) (.inl ⟨by kernel_rfl, ?_⟩) HD9.out.fl ?_
          rotate_left
          · intro w' hw'; have e0 := Row.cell hw' 0; simp only [List.getElem?_cons_zero, List.getElem?_cons_succ] at e0; clear hw'; go_simp; try with_reducible rfl
          try simp only [Act.put, List.setIfInBounds_toArray, List.set_cons_zero, List.set_cons_succ]
          refine wpAnyH_takeD (some 60) (i := 4) (v := ?_) rfl rfl (by kernel_rfl) (by kernel_rfl) (by kernel_rfl) (fun _ _ _ h => h) (.inl ⟨by kernel_rfl, ?_⟩) HD9.out.fl ?_
          rotate_left
          · intro w' hw'; have e0 := Row.cell hw' 0; simp only [List.getElem?_cons_zero, List.getElem?_cons_succ] at e0; clear hw'; go_simp; try with_reducible rfl
          try simp only [Act.put, List.setIfInBounds_toArray, List.set_cons_zero, List.set_cons_succ]
          refine wpAnyH_takeD (some 61) (i := 5) (v := ?_) rfl rfl (by kernel_rfl) (by kernel_rfl) (by kernel_rfl) (fun _ _ _ h => h) (.inl ⟨by kernel_rfl, ?_⟩) HD9.out.fl ?_
          rotate_left
          · intro w' hw'; go_simp; try with_reducible rfl
          try simp only [Act.put, List.setIfInBounds_toArray, List.set_cons_zero, List.set_cons_succ]
          refine wpAnyH_takeD (some 66) (i := 10) (v := ?_) rfl rfl (by kernel_rfl) (by kernel_rfl) (by kernel_rfl) (fun _ _ _ h => h) (.inl ⟨by kernel_rfl, ?_⟩) HD9.out.fl ?_
          rotate_left
          · intro w' hw'; go_simp; try with_reducible rfl
          try simp only [Act.put, List.setIfInBounds_toArray, List.set_cons_zero, List.set_cons_succ]
          refine wpAnyH_all (rs := [1, 6]) (by kernel_rfl) (by simp) ?_
          intro i hi; simp only [List.mem_cons, List.not_mem_nil, or_false] at hi
          rcases hi with rfl | rfl
          · refine wpOp_step rfl (fun K hK => ?_)
            have cw : X9.cell? ⟨L + 1, 1, none⟩ = some (.int .i64 u) := HD9.out.rr.cell 1
            go_simp
            refine hK _ _ ⟨HD9.out.fl, ?_⟩
            try simp only [Act.put, List.setIfInBounds_toArray, List.set_cons_zero, List.set_cons_succ]
            clear cw
            clear hK K
            refine wpAnyH_all (rs := [6]) (by kernel_rfl) (by simp) ?_
            intro i hi; simp only [List.mem_cons, List.not_mem_nil, or_false] at hi
            subst hi
            refine wpOp_step rfl (fun K hK => ?_)
            go_simp
            with_reducible refine (pick_any g j7 zs 12 X9 HD9.out.src (by have := HJ7.out; have := HJK.out; omega) (by omega)).mono ?_
            rintro e X10 ⟨p, j8, p0, p1, rfl, hj, hj2, hS, hO⟩
            replace HD9 := hid (HD9.out.only hO hS)
            have HPB := hid (show 0 ≤ p ∧ p ≤ 11 by omega)
            obtain ⟨Q, hQ⟩ : ∃ q, lo + p = q := ⟨_, rfl⟩
            have wp' : IntKind.i64.wrap (lo + p) = Q := (IntWalk.i64_in _ (by have := HLO.out; omega)).trans hQ
            have qb : 0 ≤ Q ∧ Q ≤ 1011 := by have := HLO.out; omega
            have m0 : 0 ≤ E * Q := Int.mul_nonneg (by have := HE.out; omega) qb.1
            have m1 : E * Q ≤ 4 * 1011 := Int.mul_le_mul HE.out.2 qb.2 qb.1 (by omega)
            obtain ⟨M, hM⟩ : ∃ q, E * Q = q := ⟨_, rfl⟩
            have wm : IntKind.i64.wrap (E * Q) = M := (IntWalk.i64_in _ (by omega)).trans hM
            rw [hM] at m0 m1
            obtain ⟨A, hA⟩ : ∃ q, u + M = q := ⟨_, rfl⟩
            have wu : IntKind.i64.wrap (u + M) = A := (IntWalk.i64_in _ (by have := HU.out; omega)).trans hA
            have HAB := hid (show 0 ≤ A ∧ A ≤ 10000 by have := HU.out; omega)
            have HJ8 := hid (show j8 ≤ j + 8 by have := HJ7.out; omega)
            clear hS hO hj hj2 p0 p1 qb m0 m1 hQ hM hA
            refine hK _ _ ⟨HD9.out.fl, ?_⟩
            try simp only [Act.put, List.setIfInBounds_toArray, List.set_cons_zero, List.set_cons_succ]
            clear hK K
            refine wpAnyH_takeD (some 63) (i := 7) (v := ?_) rfl rfl (by kernel_rfl) (by kernel_rfl) (by kernel_rfl) (fun _ _ _ h => h) (.inl ⟨by kernel_rfl, ?_⟩) HD9.out.fl ?_
            rotate_left
            · intro w' hw'; go_simp; try with_reducible rfl
            try simp only [Act.put, List.setIfInBounds_toArray, List.set_cons_zero, List.set_cons_succ]
            refine wpAnyH_takeD (some 64) (i := 8) (v := ?_) rfl rfl (by kernel_rfl) (by kernel_rfl) (by kernel_rfl) (fun _ _ _ h => h) (.inl ⟨by kernel_rfl, ?_⟩) HD9.out.fl ?_
            rotate_left
            · intro w' hw'; go_simp; try with_reducible rfl
            try simp only [Act.put, List.setIfInBounds_toArray, List.set_cons_zero, List.set_cons_succ]
            refine wpAnyH_takeD (some 65) (i := 9) (v := ?_) rfl rfl (by kernel_rfl) (by kernel_rfl) (by kernel_rfl) (fun _ _ _ h => h) (.inl ⟨by kernel_rfl, ?_⟩) HD9.out.fl ?_
            rotate_left
            · intro w' hw'; go_simp; try with_reducible rfl
            try simp only [Act.put, List.setIfInBounds_toArray, List.set_cons_zero, List.set_cons_succ]
            refine wpAnyH_all (rs := [11]) (by kernel_rfl) (by simp) ?_
            intro i hi; simp only [List.mem_cons, List.not_mem_nil, or_false] at hi
            subst hi
            refine wpOp_step rfl (fun K hK => ?_)
            go_simp
            with_reducible refine (l04Mod_any A 100 (by have := HAB.out; omega) (by omega) X10).mono ?_
            rintro e X11 ⟨rfl, hw⟩
            subst hw
            refine hK _ _ ⟨HD9.out.fl, ?_⟩
            try simp only [Act.put, List.setIfInBounds_toArray, List.set_cons_zero, List.set_cons_succ]
            clear hK K
            refine wpAnyH_takeD (some 68) (i := 12) (v := ?_) rfl rfl (by kernel_rfl) (by kernel_rfl) (by kernel_rfl) (fun _ _ _ h => h) (.inl ⟨by kernel_rfl, ?_⟩) HD9.out.fl ?_
            rotate_left
            · intro w' hw'; have e0 := Row.cell hw' 0; simp only [List.getElem?_cons_zero, List.getElem?_cons_succ] at e0; clear hw'; go_simp; try with_reducible rfl
            try simp only [Act.put, List.setIfInBounds_toArray, List.set_cons_zero, List.set_cons_succ]
            refine wpAnyH_all (rs := [13]) (by kernel_rfl) (by simp) ?_
            intro i hi; simp only [List.mem_cons, List.not_mem_nil, or_false] at hi
            subst hi
            refine wpOp_step rfl (fun K hK => ?_)
            have fw : X10.frozen? ⟨L + 1, 1, none⟩ = false := HD9.out.rr.frozen 1
            have ow1 : X10.cell? ⟨L + 1, 1, none⟩ = some (.int .i64 u) := HD9.out.rr.cell 1
            go_simp
            refine hK _ _ ⟨((HD9.out.val (u' := A % 100)).fl), ?_⟩
            try simp only [Act.put, List.setIfInBounds_toArray, List.set_cons_zero, List.set_cons_succ]
            clear fw ow1
            clear hK K
            refine wpAnyH_done (by kernel_rfl) ?_ _
            have hmb : 0 ≤ A % 100 ∧ A % 100 < 100 := by omega
            have hD12 := HD9.out.val (u' := A % 100)
            obtain ⟨u', hu'⟩ : ∃ q, A % 100 = q := ⟨_, rfl⟩
            rw [hu'] at hmb hD12 ⊢
            obtain ⟨X12, hX12⟩ : ∃ X, X = X10.setCell ⟨L + 1, 1, none⟩ (.int .i64 u') := ⟨_, rfl⟩
            rw [← hX12] at hD12 ⊢
            have HO12 := hid (one_any g j8 zs 8 X12 hD12.src (by have := HJ8.out; have := HJK.out; omega) (by omega))
            have HD12 := hid hD12; have HU2 := hid hmb
            clear hX12 hD12 hmb hu' wp' wm wu HD9 HAB HPB
            go_wp2_with fail
            with_reducible refine HO12.out.mono ?_
            rintro e X13 ⟨b, j9, rfl, hj, hj2, hS, hO⟩
            have HD13 := hid (HD12.out.only hO hS)
            have HJ9 := hid (show j9 ≤ j + 10 by have := HJ8.out; omega)
            clear hS hO hj hj2 HO12 HD12 HJ8
            cases b with
            | true =>
              have HP14 := hid (pick_any g j9 zs 100 X13 HD13.out.src (by have := HJ9.out; have := HJK.out; omega) (by omega))
              go_wp2_with fail
              with_reducible refine HP14.out.mono ?_
              rintro e X14 ⟨q, j10, q0, q1, rfl, hj, hj2, hS, hO⟩
              have hD14 := HD13.out.only hO hS
              have f1 := hD14.rr.frozen 1
              have c1 := hD14.rr.cell 1
              simp only [List.getElem?_cons_zero, List.getElem?_cons_succ] at c1
              have HD15 := hid (hD14.val (u' := q))
              have HUQ := hid (show 0 ≤ q ∧ q < 100 by omega)
              have HJ10 := hid (show j10 ≤ j + 12 by have := HJ9.out; omega)
              clear hS hO hj hj2 hD14 q0 q1 HP14
              go_wp2_with fail
              go_roundw
              case rel => exact ⟨k - 1, j10, v', js', d', q, HK2.out, by have := HJ10.out; have := HJK.out; omega, by rw [show ((k - 1 : Nat) : Int) = (k : Int) - 1 by omega], rfl, HLP2.out, HUQ.out, HD15.out⟩
              case measure => simp [intOf]; omega
            | false =>
              go_wp2_with fail
              go_roundw
              case rel => exact ⟨k - 1, j9, v', js', d', u', HK2.out, by have := HJ9.out; have := HJK.out; omega, by rw [show ((k - 1 : Nat) : Int) = (k : Int) - 1 by omega], rfl, HLP2.out, HU2.out, HD13.out⟩
              case measure => simp [intOf]; omega
          · refine wpOp_step rfl (fun K hK => ?_)
            go_simp
            with_reducible refine (pick_any g j7 zs 12 X9 HD9.out.src (by have := HJ7.out; have := HJK.out; omega) (by omega)).mono ?_
            rintro e X10 ⟨p, j8, p0, p1, rfl, hj, hj2, hS, hO⟩
            replace HD9 := hid (HD9.out.only hO hS)
            have HPB := hid (show 0 ≤ p ∧ p ≤ 11 by omega)
            obtain ⟨Q, hQ⟩ : ∃ q, lo + p = q := ⟨_, rfl⟩
            have wp' : IntKind.i64.wrap (lo + p) = Q := (IntWalk.i64_in _ (by have := HLO.out; omega)).trans hQ
            have qb : 0 ≤ Q ∧ Q ≤ 1011 := by have := HLO.out; omega
            have m0 : 0 ≤ E * Q := Int.mul_nonneg (by have := HE.out; omega) qb.1
            have m1 : E * Q ≤ 4 * 1011 := Int.mul_le_mul HE.out.2 qb.2 qb.1 (by omega)
            obtain ⟨M, hM⟩ : ∃ q, E * Q = q := ⟨_, rfl⟩
            have wm : IntKind.i64.wrap (E * Q) = M := (IntWalk.i64_in _ (by omega)).trans hM
            rw [hM] at m0 m1
            obtain ⟨A, hA⟩ : ∃ q, u + M = q := ⟨_, rfl⟩
            have wu : IntKind.i64.wrap (u + M) = A := (IntWalk.i64_in _ (by have := HU.out; omega)).trans hA
            have HAB := hid (show 0 ≤ A ∧ A ≤ 10000 by have := HU.out; omega)
            have HJ8 := hid (show j8 ≤ j + 8 by have := HJ7.out; omega)
            clear hS hO hj hj2 p0 p1 qb m0 m1 hQ hM hA
            refine hK _ _ ⟨HD9.out.fl, ?_⟩
            try simp only [Act.put, List.setIfInBounds_toArray, List.set_cons_zero, List.set_cons_succ]
            clear hK K
            refine wpAnyH_takeD (some 63) (i := 7) (v := ?_) rfl rfl (by kernel_rfl) (by kernel_rfl) (by kernel_rfl) (fun _ _ _ h => h) (.inl ⟨by kernel_rfl, ?_⟩) HD9.out.fl ?_
            rotate_left
            · intro w' hw'; go_simp; try with_reducible rfl
            try simp only [Act.put, List.setIfInBounds_toArray, List.set_cons_zero, List.set_cons_succ]
            refine wpAnyH_takeD (some 64) (i := 8) (v := ?_) rfl rfl (by kernel_rfl) (by kernel_rfl) (by kernel_rfl) (fun _ _ _ h => h) (.inl ⟨by kernel_rfl, ?_⟩) HD9.out.fl ?_
            rotate_left
            · intro w' hw'; go_simp; try with_reducible rfl
            try simp only [Act.put, List.setIfInBounds_toArray, List.set_cons_zero, List.set_cons_succ]
            refine wpAnyH_all (rs := [1]) (by kernel_rfl) (by simp) ?_
            intro i hi; simp only [List.mem_cons, List.not_mem_nil, or_false] at hi
            subst hi
            refine wpOp_step rfl (fun K hK => ?_)
            have cw : X10.cell? ⟨L + 1, 1, none⟩ = some (.int .i64 u) := HD9.out.rr.cell 1
            go_simp
            refine hK _ _ ⟨HD9.out.fl, ?_⟩
            try simp only [Act.put, List.setIfInBounds_toArray, List.set_cons_zero, List.set_cons_succ]
            clear cw
            clear hK K
            refine wpAnyH_takeD (some 65) (i := 9) (v := ?_) rfl rfl (by kernel_rfl) (by kernel_rfl) (by kernel_rfl) (fun _ _ _ h => h) (.inl ⟨by kernel_rfl, ?_⟩) HD9.out.fl ?_
            rotate_left
            · intro w' hw'; go_simp; try with_reducible rfl
            try simp only [Act.put, List.setIfInBounds_toArray, List.set_cons_zero, List.set_cons_succ]
            refine wpAnyH_all (rs := [11]) (by kernel_rfl) (by simp) ?_
            intro i hi; simp only [List.mem_cons, List.not_mem_nil, or_false] at hi
            subst hi
            refine wpOp_step rfl (fun K hK => ?_)
            go_simp
            with_reducible refine (l04Mod_any A 100 (by have := HAB.out; omega) (by omega) X10).mono ?_
            rintro e X11 ⟨rfl, hw⟩
            subst hw
            refine hK _ _ ⟨HD9.out.fl, ?_⟩
            try simp only [Act.put, List.setIfInBounds_toArray, List.set_cons_zero, List.set_cons_succ]
            clear hK K
            refine wpAnyH_takeD (some 68) (i := 12) (v := ?_) rfl rfl (by kernel_rfl) (by kernel_rfl) (by kernel_rfl) (fun _ _ _ h => h) (.inl ⟨by kernel_rfl, ?_⟩) HD9.out.fl ?_
            rotate_left
            · intro w' hw'; have e0 := Row.cell hw' 0; simp only [List.getElem?_cons_zero, List.getElem?_cons_succ] at e0; clear hw'; go_simp; try with_reducible rfl
            try simp only [Act.put, List.setIfInBounds_toArray, List.set_cons_zero, List.set_cons_succ]
            refine wpAnyH_all (rs := [13]) (by kernel_rfl) (by simp) ?_
            intro i hi; simp only [List.mem_cons, List.not_mem_nil, or_false] at hi
            subst hi
            refine wpOp_step rfl (fun K hK => ?_)
            have fw : X10.frozen? ⟨L + 1, 1, none⟩ = false := HD9.out.rr.frozen 1
            have ow1 : X10.cell? ⟨L + 1, 1, none⟩ = some (.int .i64 u) := HD9.out.rr.cell 1
            go_simp
            refine hK _ _ ⟨((HD9.out.val (u' := A % 100)).fl), ?_⟩
            try simp only [Act.put, List.setIfInBounds_toArray, List.set_cons_zero, List.set_cons_succ]
            clear fw ow1
            clear hK K
            refine wpAnyH_done (by kernel_rfl) ?_ _
            have hmb : 0 ≤ A % 100 ∧ A % 100 < 100 := by omega
            have hD12 := HD9.out.val (u' := A % 100)
            obtain ⟨u', hu'⟩ : ∃ q, A % 100 = q := ⟨_, rfl⟩
            rw [hu'] at hmb hD12 ⊢
            obtain ⟨X12, hX12⟩ : ∃ X, X = X10.setCell ⟨L + 1, 1, none⟩ (.int .i64 u') := ⟨_, rfl⟩
            rw [← hX12] at hD12 ⊢
            have HO12 := hid (one_any g j8 zs 8 X12 hD12.src (by have := HJ8.out; have := HJK.out; omega) (by omega))
            have HD12 := hid hD12; have HU2 := hid hmb
            clear hX12 hD12 hmb hu' wp' wm wu HD9 HAB HPB
            go_wp2_with fail
            with_reducible refine HO12.out.mono ?_
            rintro e X13 ⟨b, j9, rfl, hj, hj2, hS, hO⟩
            have HD13 := hid (HD12.out.only hO hS)
            have HJ9 := hid (show j9 ≤ j + 10 by have := HJ8.out; omega)
            clear hS hO hj hj2 HO12 HD12 HJ8
            cases b with
            | true =>
              have HP14 := hid (pick_any g j9 zs 100 X13 HD13.out.src (by have := HJ9.out; have := HJK.out; omega) (by omega))
              go_wp2_with fail
              with_reducible refine HP14.out.mono ?_
              rintro e X14 ⟨q, j10, q0, q1, rfl, hj, hj2, hS, hO⟩
              have hD14 := HD13.out.only hO hS
              have f1 := hD14.rr.frozen 1
              have c1 := hD14.rr.cell 1
              simp only [List.getElem?_cons_zero, List.getElem?_cons_succ] at c1
              have HD15 := hid (hD14.val (u' := q))
              have HUQ := hid (show 0 ≤ q ∧ q < 100 by omega)
              have HJ10 := hid (show j10 ≤ j + 12 by have := HJ9.out; omega)
              clear hS hO hj hj2 hD14 q0 q1 HP14
              go_wp2_with fail
              go_roundw
              case rel => exact ⟨k - 1, j10, v', js', d', q, HK2.out, by have := HJ10.out; have := HJK.out; omega, by rw [show ((k - 1 : Nat) : Int) = (k : Int) - 1 by omega], rfl, HLP2.out, HUQ.out, HD15.out⟩
              case measure => simp [intOf]; omega
            | false =>
              go_wp2_with fail
              go_roundw
              case rel => exact ⟨k - 1, j9, v', js', d', u', HK2.out, by have := HJ9.out; have := HJK.out; omega, by rw [show ((k - 1 : Nat) : Int) = (k : Int) - 1 by omega], rfl, HLP2.out, HU2.out, HD13.out⟩
              case measure => simp [intOf]; omega
      · obtain rfl : k = 0 := by omega
        have HQ := hid (And.intro hk (And.intro hLP hD))
        clear hk hLP hD hjk hu hd0 hd9
        go_wp2_with fail
        refine bodyPost_ret (v := .tuple #[.slice (some ⟨R + 1, 0, none⟩) 2 2, v]) (by simp [results, Try.results17, go_sem]) rfl ?_
        obtain ⟨hk, hLP, hh⟩ := HQ.out
        have := hh.1
        exact ⟨[10, 10], js, d, v, R + 1, L, rfl, .inr (.inr rfl), by have := KB.out; omega, by rw [wz]; exact hLP, hh.2.2.1, by omega, by omega, hh.2.2.2.2.2.1, hh.2.2.2.2.2.2.2, hh.1.2.2.2.2.2.2, hh.2.2.2.2.2.2.1.2⟩
end Go.Proofs.Ytofpgkbcodopiaa
