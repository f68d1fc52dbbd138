/- How tickets that come in are opened. -/
import Derived.Test.YtnfgapgjkkeofaaTicks
namespace Go.Proofs.Ytnfgapgjkkeofaa
open Go.RowKit Go.ChangeShapes Go.WideShapes Go.ChangeAt
set_option linter.unusedVariables false
set_option linter.unusedSimpArgs false
theorem list_ofT (P : Nat → (Nat → Int) → Prop) : ∀ n, (∀ i, i < n → ∃ f, P i f) → ∃ ts : List (Nat → Int), ts.length = n ∧ ∀ i, i < n → P i (ts[i]?.getD (fun _ => 0))
  | 0, _ => ⟨[], rfl, fun i h => by omega⟩
  | n + 1, h => by
    obtain ⟨ts, hl, ht⟩ := list_ofT P n (fun i hi => h i (by omega))
    obtain ⟨f, hf⟩ := h n (by omega)
    refine ⟨ts ++ [f], by simp [hl], fun i hi => ?_⟩
    by_cases e : i = n
    · subst e
      have : (ts ++ [f])[i]?.getD (fun _ => 0) = f := by rw [List.getElem?_append_right (by omega), hl, Nat.sub_self]; rfl
      rw [this]; exact hf
    · have : (ts ++ [f])[i]?.getD (fun _ => 0) = ts[i]?.getD (fun _ => 0) := by rw [List.getElem?_append_left (by omega)]
      rw [this]; exact ht i (by omega)
section
variable {H : Type} {enc : TypeId × Value → H} {P : Program} {W : World}
def tkOf (x0 x1 x2 x3 x4 x5 x6 x7 x8 x9 : Int) : Nat → Int
  | 0 => x0 | 1 => x1 | 2 => x2 | 3 => x3 | 4 => x4 | 5 => x5 | 6 => x6 | 7 => x7 | 8 => x8 | 9 => x9 | _ => 0
theorem open_ticksV {t e eD : TypeId} {f0 f1 f2 : Field} (ht : P.underlying t = some (.slice e)) (he : P.underlying e = some (.struct #[f0, f1, f2])) (hone : tickFields P f0 f1 f2 = true) (hC : P.cellsOf e = 10)
    (k0 : P.underlying f0.type = some (.int .i64)) (tD : P.underlying f1.type = some (.array 8 eD)) (uD : P.underlying eD = some (.int .u8)) (cD : P.cellsOf eD = 1) (k2 : P.underlying f2.type = some (.int .u16))
    {n : Nat} {v : Value} {y : DataW H × List MemPlace}
    (h : DataW.trod enc P W 0 (fun _ => true) true n t [v] = some y) : ∃ a len cap ts, v = .slice a len cap ∧ len ≤ 9223372036854775807 ∧ InT W a len ts := by
  rcases Go.Deep.open_slice ht h with ⟨hcs, _⟩ | ⟨x, l, c, m, n', D, Pl, hcs, _, hl, hm, hmm, _, hi⟩
  · obtain rfl : v = .slice none 0 0 := by simpa using hcs
    exact ⟨_, _, _, [], rfl, by omega, rfl, fun j hj => by omega, .inl rfl⟩
  · obtain rfl : v = .slice (some x) l c := by simpa using hcs
    have each : ∀ i, i < l → ∃ f : Nat → Int, tkB f ∧ ∀ r, r < 10 → W.cell? ((x.add (i * 10)).add r) = some (tkv r (f r)) := fun i hil => by
      obtain ⟨cs', hc, ht'⟩ := hi i (by rw [hmm]; split <;> omega)
      rw [hC] at hc
      obtain ⟨_, hcl, hat⟩ := World.cells?_some hc
      obtain ⟨xs, n2, _, _, hll, hlen, hf⟩ := DataW.trod_struct he ht'
      have hone' := hone
      simp only [tickFields, Bool.and_eq_true, beq_iff_eq] at hone'
      obtain ⟨⟨⟨o0, s0⟩, o1, s1⟩, o2, s2⟩ := hone'
      match cs', hcl, xs, hlen with
      | [u0, u1, u2, u3, u4, u5, u6, u7, u8, u9], _, [y0, y1, y2], _ =>
        have g0 := hf 0 f0 rfl
        have g1 := hf 1 f1 rfl
        have g2 := hf 2 f2 rfl
        simp [o0, s0] at g0
        simp [o1, s1] at g1
        simp [o2, s2] at g2
        obtain ⟨z0, e0, _, w0⟩ := DataW.trod_int k0 g0
        obtain ⟨d0, d1, d2, d3, d4, d5, d6, d7, e1, ho⟩ := open_octC tD uD cD g1
        obtain ⟨z2, e2, _, w2⟩ := DataW.trod_int k2 g2
        simp only [List.cons.injEq, and_true] at e0 e1 e2
        obtain ⟨rfl, rfl, rfl, rfl, rfl, rfl, rfl, rfl⟩ := e1
        subst e0 e2
        refine ⟨tkOf z0 d0 d1 d2 d3 d4 d5 d6 d7 z2, ⟨wf64 w0, ho, bounds_u16 w2⟩, fun r hr => ?_⟩
        have a := hat r (by simpa using hr)
        rw [a]
        match r, hr with
        | 0, _ | 1, _ | 2, _ | 3, _ | 4, _ | 5, _ | 6, _ | 7, _ | 8, _ | 9, _ => rfl
    obtain ⟨ts, hjl, hj⟩ := list_ofT (fun i f => tkB f ∧ ∀ r, r < 10 → W.cell? ((x.add (i * 10)).add r) = some (tkv r (f r))) l each
    refine ⟨_, _, _, ts, rfl, by unfold maxLen at hm; omega, hjl, fun j hjl' => (hj j hjl').1, ?_⟩
    by_cases hl0 : l = 0
    · exact .inl hl0
    · right
      have c0 := (hj 0 (by omega)).2 0 (by omega)
      obtain ⟨b, off, spot⟩ := x
      have hspot : spot = none := by simpa [Addr.add] using World.cell?_spot c0
      subst hspot
      have hb : b < W.heap.size := by
        by_cases hb : b < W.heap.size
        · exact hb
        · simp [World.cell?, Addr.add, Array.getElem?_eq_none (Nat.le_of_not_lt hb)] at c0
      have ad : ∀ o k, (⟨b, o, none⟩ : Addr).add k = ⟨b, o + k, none⟩ := fun o k => by
        by_cases h : k = 0
        · subst h; simp [Addr.add]
        · simp [Addr.add, h]
      refine ⟨b, off, rfl, hb, fun j hjl' i hi' => ?_⟩
      have := (hj j hjl').2 i hi'
      rw [ad, ad] at this
      exact this
theorem open_ticks {t e eD : TypeId} {f0 f1 f2 : Field} (ht : P.underlying t = some (.slice e)) (he : P.underlying e = some (.struct #[f0, f1, f2])) (hone : tickFields P f0 f1 f2 = true) (hC : P.cellsOf e = 10)
    (k0 : P.underlying f0.type = some (.int .i64)) (tD : P.underlying f1.type = some (.array 8 eD)) (uD : P.underlying eD = some (.int .u8)) (cD : P.cellsOf eD = 1) (k2 : P.underlying f2.type = some (.int .u16))
    {a : Option Addr} {len cap : Nat} {d : DataW H} {p : List MemPlace}
    (h : DataW.Trod enc P W 0 (fun _ => true) true t (.slice a len cap) d p) : ∃ ts, len ≤ 9223372036854775807 ∧ InT W a len ts := by
  obtain ⟨fuel, hf⟩ := h
  obtain ⟨a', len', cap', ts, e1, hl, hj⟩ := open_ticksV (v := .slice a len cap) ht he hone hC k0 tD uD cD k2 hf
  simp only [Value.slice.injEq] at e1
  obtain ⟨rfl, rfl, rfl⟩ := e1
  exact ⟨ts, hl, hj⟩
end
end Go.Proofs.Ytnfgapgjkkeofaa
