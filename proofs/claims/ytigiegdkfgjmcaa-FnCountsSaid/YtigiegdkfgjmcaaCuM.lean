/- FnCounts: counts, ways and digits as numbers. -/
import Derived.Test.YtigiegdkfgjmcaaVdM
import Derived.Test.YtigiegdkfgjmcaaMovesM
import Derived.Test.YtigiegdkfgjmcaaAddC
import Derived.Test.YtigiegdkfgjmcaaNextC
import Derived.Test.YtigiegdkfgjmcaaCountC
import Derived.Test.YtigiegdkfgjmcaaWayP
namespace Go.Proofs.Ytigiegdkfgjmcaa
open Go.RowKit
set_option linter.unusedVariables false
set_option linter.unusedSimpArgs false
theorem szL_rest (zs : List Int) (k : Nat) : ∀ m, k + m ≤ zs.length → ∃ R, szL (zs.take (k + m)) = szL (zs.take k) * R
  | 0, _ => ⟨1, by rw [Nat.add_zero, Int.mul_one]⟩
  | m + 1, h => by
    obtain ⟨R, hR⟩ := szL_rest zs k m (by omega)
    refine ⟨R * zs[k + m]?.getD 0, ?_⟩
    rw [← Nat.add_assoc, szL_take zs (k + m) (by omega), hR, Int.mul_assoc]
/-- a digit of a value that has gone round -/
theorem dig_mod {zs : List Int} (hi : inB zs zs.length) {k : Nat} (hk : k < zs.length) (t : Int) : (t % szL zs) / szL (zs.take k) % zs[k]?.getD 0 = t / szL (zs.take k) % zs[k]?.getD 0 := by
  have hp := szL_pos zs k (by omega) hi
  obtain ⟨R, hR⟩ := szL_rest zs (k + 1) (zs.length - (k + 1)) (by omega)
  rw [show k + 1 + (zs.length - (k + 1)) = zs.length by omega, List.take_length, szL_take zs k hk] at hR
  rw [hR]
  obtain ⟨P, hP⟩ : ∃ P, szL (zs.take k) = P := ⟨_, rfl⟩
  obtain ⟨z, hz⟩ : ∃ z, zs[k]?.getD 0 = z := ⟨_, rfl⟩
  rw [hP] at hp ⊢
  rw [hz]
  have e := Int.mul_ediv_add_emod t (P * z * R)
  obtain ⟨q, hq⟩ : ∃ q, t / (P * z * R) = q := ⟨_, rfl⟩
  rw [hq] at e
  have e2 : t % (P * z * R) = t + P * (z * (-(R * q))) := by
    have : P * (z * (-(R * q))) = -(P * z * R * q) := by rw [Int.mul_neg, Int.mul_neg, Int.mul_assoc, Int.mul_assoc]
    omega
  rw [e2, Int.add_mul_ediv_left _ _ (by omega), Int.add_mul_emod_self_left]
theorem dgs_listC (zs : List Int) (v : Int) : [dg (dgL zs v) 0, dg (dgL zs v) 1, dg (dgL zs v) 2, dg (dgL zs v) 3, dg (dgL zs v) 4, dg (dgL zs v) 5, dg (dgL zs v) 6, dg (dgL zs v) 7] = dgL zs v := by
  have hl := dgL_len zs v
  obtain ⟨l, hv⟩ : ∃ l, dgL zs v = l := ⟨_, rfl⟩
  rw [hv] at hl ⊢
  match l, hl with
  | [a, b, c, d, e, f, g, h], _ => rfl
theorem addR_of {zs : List Int} {v c : Int} (h : okL zs = true) (hv : 0 ≤ v ∧ v < szL zs) (hc : -1000000000000 ≤ c ∧ c ≤ 1000000000000) : addR zs (dgL zs v) c = (dgL zs ((v + c) % szL zs), (v + c) / szL zs, 0) := by
  rw [addR_yes c (okV_dgL zs v h) hc, valL_of zs v h hv]
theorem movR_of {zs : List Int} {v c : Int} (h : okL zs = true) (hv : 0 ≤ v ∧ v < szL zs) (hc : -1000000000000 ≤ c ∧ c ≤ 1000000000000) : movR zs (dgL zs v) c = (mvL zs v c, 0) := by
  rw [movR_yes c (okV_dgL zs v h) hc, valL_of zs v h hv]
/-- counts, one behind the other -/
theorem add_two {z v a b : Int} (hz : 1 ≤ z) : ((v + a) % z + b) % z = (v + (a + b)) % z ∧ ((v + a) % z + b) / z = (v + (a + b)) / z - (v + a) / z := by
  have e := Int.mul_ediv_add_emod (v + a) z
  obtain ⟨q, hq⟩ : ∃ q, (v + a) / z = q := ⟨_, rfl⟩
  rw [hq] at e ⊢
  have e2 : v + (a + b) = ((v + a) % z + b) + z * q := by omega
  rw [e2, Int.add_mul_emod_self_left, Int.add_mul_ediv_left _ _ (by omega)]
  exact ⟨rfl, by omega⟩
theorem mv_zero {zs : List Int} {v a : Int} (h : 1 ≤ zs.length) : mg (mvL zs v a) 0 = a := by
  have e := mvL_get zs v a 0 (by omega)
  rw [if_pos (by omega)] at e
  unfold mg
  rw [e]
  unfold mvK
  rw [List.take_zero, szL_nil, Int.ediv_one, Int.ediv_one]
  omega
/-- a wheel that is moved -/
theorem mv_dig {zs : List Int} (hi : inB zs zs.length) (h8 : zs.length ≤ 8) {v a : Int} {k : Nat} (hk : k < zs.length) :
    dg (dgL zs ((v + a) % szL zs)) k = (dg (dgL zs v) k + mg (mvL zs v a) k) % zs[k]?.getD 0 := by
  have e1 := dgL_get zs v k (by omega)
  have e2 := dgL_get zs ((v + a) % szL zs) k (by omega)
  have e3 := mvL_get zs v a k (by omega)
  rw [if_pos hk] at e1 e2 e3
  unfold dg mg
  rw [e1, e2, e3, dig_mod hi hk]
  unfold mvK
  rw [Int.emod_add_emod]
  congr 1
  omega
theorem tmod_up {x z : Int} (hz : 1 ≤ z) : -z < x.tmod z ∧ x.tmod z < z ∧ (x.tmod z + z).tmod z = x % z := by
  have h1 := Int.tmod_lt_of_pos x (show 0 < z by omega)
  have h2 : -z < x.tmod z := by
    have := Int.lt_tmod_of_pos x (show 0 < z by omega)
    omega
  refine ⟨h2, h1, ?_⟩
  rw [Int.tmod_eq_emod_of_nonneg (by omega)]
  have e := Int.tmod_add_mul_tdiv x z
  have e2 : x.tmod z + z = x + z * (1 - x.tdiv z) := by rw [Int.mul_sub, Int.mul_one]; omega
  rw [e2, Int.add_mul_emod_self_left]
theorem same_dig {ds es : List Int} (h1 : ds.length = 8) (h2 : es.length = 8) (h : sameD ds es = true) : ds = es := by
  apply List.ext_getElem (by omega)
  intro j ha hb
  have := sameD_get h j (by omega)
  rw [List.getElem?_eq_getElem ha, List.getElem?_eq_getElem hb] at this
  exact this
theorem same_rfl (ds : List Int) : sameD ds ds = true := by unfold sameD; simp
/-- the ways between two values -/
theorem way_of {zs : List Int} {v u : Int} (h : okL zs = true) (hv : 0 ≤ v ∧ v < szL zs) (hu : 0 ≤ u ∧ u < szL zs) : ∃ g1 g2, wayR zs (dgL zs v) (dgL zs u) zs.length = ((g1, g2), 0) ∧ (v + g1) % szL zs = u ∧ (v + g2) % szL zs = u ∧ (0 ≤ g1 ∧ g1 < szL zs) ∧ (- szL zs < g2 ∧ g2 ≤ 0) := by
  unfold wayR
  rw [okV_dgL zs v h, okV_dgL zs u h, valL_of zs v h hv, valL_of zs u h hu, Bool.true_and, if_pos rfl]
  cases hs : sameD (dgL zs v) (dgL zs u) with
  | true =>
    have e := same_dig (dgL_len zs v) (dgL_len zs u) hs
    have e2 : v = u := by rw [← valL_of zs v h hv, e, valL_of zs u h hu]
    refine ⟨0, 0, by simp, ?_, ?_, by omega, by omega⟩ <;> rw [Int.add_zero, Int.emod_eq_of_lt hv.1 hv.2, e2]
  | false =>
    have ne : v ≠ u := by
      rintro rfl
      rw [same_rfl] at hs; simp at hs
    obtain ⟨z, hz⟩ : ∃ z, szL zs = z := ⟨_, rfl⟩
    rw [hz] at hv hu ⊢
    have m0 := Int.emod_nonneg (u - v) (show z ≠ 0 by omega)
    have m1 := Int.emod_lt_of_pos (u - v) (show 0 < z by omega)
    have key : (v + (u - v) % z) % z = u := by
      rw [Int.add_emod_emod, show v + (u - v) = u by omega, Int.emod_eq_of_lt hu.1 hu.2]
    refine ⟨(u - v) % z, (u - v) % z - z, by simp, key, ?_, ⟨m0, m1⟩, ?_⟩
    · rw [show v + ((u - v) % z - z) = (v + (u - v) % z) + z * (-1) by omega, Int.add_mul_emod_self_left, key]
    · by_cases c : (u - v) % z = 0
      · have := key; rw [c, Int.add_zero, Int.emod_eq_of_lt hv.1 hv.2] at this; exact absurd this ne
      · omega
theorem cmp_of {zs : List Int} {v u : Int} (h : okL zs = true) (hv : 0 ≤ v ∧ v < szL zs) (hu : 0 ≤ u ∧ u < szL zs) : ∃ c : Int, cmpD zs (dgL zs v) (dgL zs u) zs.length = (c, 0) ∧ decide (c < 0) = decide (v < u) ∧ decide (0 < c) = decide (u < v) := by
  unfold cmpD
  rw [okV_dgL zs v h, okV_dgL zs u h, valL_of zs v h hv, valL_of zs u h hu, Bool.true_and, if_pos rfl]
  cases hs : sameD (dgL zs v) (dgL zs u) with
  | true =>
    have e := same_dig (dgL_len zs v) (dgL_len zs u) hs
    have e2 : v = u := by rw [← valL_of zs v h hv, e, valL_of zs u h hu]
    subst e2
    exact ⟨0, by simp, by simp, by simp⟩
  | false =>
    have ne : v ≠ u := by
      rintro rfl
      rw [same_rfl] at hs; simp at hs
    by_cases c : v < u
    · refine ⟨-1, by simp [c], ?_, ?_⟩
      · rw [decide_eq_true c]; rfl
      · rw [decide_eq_false (show ¬ u < v by omega)]; rfl
    · refine ⟨1, by simp [c], ?_, ?_⟩
      · rw [decide_eq_false c]; rfl
      · rw [decide_eq_true (show u < v by omega)]; rfl
/-- the next value with a digit -/
theorem nxt_of {zs : List Int} {v x : Int} {k : Nat} (h : okL zs = true) (hv : 0 ≤ v ∧ v < szL zs) (hk : k < zs.length) (hx : 0 ≤ x ∧ x < zs[k]?.getD 0) : ∃ f : Int, nxtR zs (dgL zs v) (k : Int) x = (f, 0) ∧ (0 ≤ f ∧ f < szL zs) ∧ dg (dgL zs ((v + f) % szL zs)) k = x := by
  obtain ⟨_, h8, hi, hs1, _⟩ := okL_out h
  have hd : hdB zs (k : Int) x := ⟨⟨by omega, by omega⟩, by rw [Int.toNat_natCast]; exact hx⟩
  have hz := hi k hk
  have hp := szL_pos zs k (by omega) hi
  have e1 := dgL_get zs v k (by omega)
  rw [if_pos hk] at e1
  have hg : ∀ f, dg (dgL zs ((v + f) % szL zs)) k = (v + f) / szL (zs.take k) % zs[k]?.getD 0 := fun f => by
    have e2 := dgL_get zs ((v + f) % szL zs) k (by omega)
    rw [if_pos hk] at e2
    unfold dg
    rw [e2, dig_mod hi hk]
  by_cases c : (dgL zs v)[k]?.getD 0 = x
  · refine ⟨0, nxtR_same k x (okV_dgL zs v h) hd c, by omega, ?_⟩
    rw [hg, Int.add_zero, ← e1, c]
  · have lo := valL_dgL zs v h8 hi k (by omega)
    obtain ⟨R, hR⟩ := szL_rest zs (k + 1) (zs.length - (k + 1)) (by omega)
    rw [show k + 1 + (zs.length - (k + 1)) = zs.length by omega, List.take_length, szL_take zs k hk] at hR
    refine ⟨_, nxtR_yes k x (okV_dgL zs v h) hd c, ?_⟩
    rw [hg, lo, e1] at *
    obtain ⟨S, hS⟩ : ∃ S, szL zs = S := ⟨_, rfl⟩
    obtain ⟨P, hP⟩ : ∃ P, szL (zs.take k) = P := ⟨_, rfl⟩
    obtain ⟨z, hz'⟩ : ∃ z, zs[k]?.getD 0 = z := ⟨_, rfl⟩
    rw [hP] at hp c hR ⊢
    rw [hz'] at hz hx c hR ⊢
    rw [hS] at hv hR hs1 ⊢
    have d0 := Int.emod_nonneg (v / P) (show z ≠ 0 by omega)
    have d1 := Int.emod_lt_of_pos (v / P) (show 0 < z by omega)
    have ev := Int.mul_ediv_add_emod v P
    have ev2 := Int.mul_ediv_add_emod (v / P) z
    have l0 := Int.emod_nonneg v (show P ≠ 0 by omega)
    have l1 := Int.emod_lt_of_pos v (show 0 < P by omega)
    obtain ⟨d, hd'⟩ : ∃ d, v / P % z = d := ⟨_, rfl⟩
    obtain ⟨g, hg'⟩ : ∃ g, v / P / z = g := ⟨_, rfl⟩
    obtain ⟨low, hlow⟩ : ∃ l, v % P = l := ⟨_, rfl⟩
    rw [hd'] at c d0 d1 ev2 ⊢
    rw [hg'] at ev2
    rw [hlow] at ev l0 l1 ⊢
    have hR1 : 1 ≤ R := by
      by_cases hr : 1 ≤ R
      · exact hr
      · have : P * z * R ≤ 0 := Int.mul_nonpos_of_nonneg_of_nonpos (Int.mul_nonneg (by omega) (by omega)) (by omega)
        omega
    have hPz : P * z * 1 ≤ P * z * R := Int.mul_le_mul_of_nonneg_left hR1 (Int.mul_nonneg (by omega) (by omega))
    rw [Int.mul_one] at hPz
    have go : ∀ t : Int, 1 ≤ t → t ≤ z - 1 → (0 ≤ t * P - low ∧ t * P - low < S) ∧ (v + (t * P - low)) / P = v / P + t := by
      intro t t1 t2
      have a1 : 1 * P ≤ t * P := Int.mul_le_mul_of_nonneg_right t1 (by omega)
      have a2 : t * P ≤ z * P := Int.mul_le_mul_of_nonneg_right (by omega) (by omega)
      rw [Int.mul_comm z P] at a2
      have a3 : t * P ≤ (z - 1) * P := Int.mul_le_mul_of_nonneg_right t2 (by omega)
      rw [Int.sub_mul, Int.one_mul, Int.mul_comm z P] at a3
      refine ⟨⟨by omega, by omega⟩, ?_⟩
      have : v + (t * P - low) = 0 + P * (v / P + t) := by rw [Int.mul_add, Int.mul_comm P t]; omega
      rw [this, Int.add_mul_ediv_left _ _ (by omega), Int.zero_ediv]
      omega
    by_cases c2 : x - d < 0
    · rw [if_pos c2]
      obtain ⟨b, e⟩ := go (x - d + z) (by omega) (by omega)
      refine ⟨b, ?_⟩
      rw [e, ← ev2, show z * g + d + (x - d + z) = x + z * (g + 1) by rw [Int.mul_add, Int.mul_one]; omega, Int.add_mul_emod_self_left, Int.emod_eq_of_lt hx.1 hx.2]
    · rw [if_neg c2]
      obtain ⟨b, e⟩ := go (x - d) (by omega) (by omega)
      refine ⟨b, ?_⟩
      rw [e, ← ev2, show z * g + d + (x - d) = x + z * g by omega, Int.add_mul_emod_self_left, Int.emod_eq_of_lt hx.1 hx.2]
/-- one value more -/
theorem below_succ {p z x u : Int} (hp : 1 ≤ p) (hz : 2 ≤ z) (hx : 0 ≤ x ∧ x < z) (hu : 0 ≤ u) : belowF p z x (u + 1) = belowF p z x u + (if u / p % z = x then 1 else 0) := by
  unfold belowF
  have hc : 1 * 1 ≤ p * z := Int.mul_le_mul hp (by omega) (by omega) (by omega)
  have ec := Int.mul_ediv_add_emod u (p * z)
  have r0 := Int.emod_nonneg u (show p * z ≠ 0 by omega)
  have r1 := Int.emod_lt_of_pos u (show 0 < p * z by omega)
  have ep := Int.mul_ediv_add_emod u p
  have s0 := Int.emod_nonneg u (show p ≠ 0 by omega)
  have s1 := Int.emod_lt_of_pos u (show 0 < p by omega)
  have ez := Int.mul_ediv_add_emod (u / p) z
  have d0 := Int.emod_nonneg (u / p) (show z ≠ 0 by omega)
  have d1 := Int.emod_lt_of_pos (u / p) (show 0 < z by omega)
  have eq : u / p / z = u / (p * z) := Int.ediv_ediv_of_nonneg (by omega)
  rw [eq] at ez
  obtain ⟨q, hq⟩ : ∃ q, u / (p * z) = q := ⟨_, rfl⟩
  obtain ⟨r, hr⟩ : ∃ r, u % (p * z) = r := ⟨_, rfl⟩
  obtain ⟨s, hs⟩ : ∃ s, u % p = s := ⟨_, rfl⟩
  obtain ⟨d, hd⟩ : ∃ d, u / p % z = d := ⟨_, rfl⟩
  rw [hq, hr] at ec; rw [hr] at r0 r1; rw [hs] at ep s0 s1; rw [hd] at d0 d1 ez ⊢; rw [hq] at ez
  rw [hq, hr]
  -- r = d * p + s
  have er : r = d * p + s := by
    have : p * (u / p) = p * z * q + p * d := by rw [← ez, Int.mul_add, Int.mul_assoc]
    rw [Int.mul_comm d p]
    omega
  have wrap : ∀ q' r', 0 ≤ r' → r' < p * z → u + 1 = p * z * q' + r' → (u + 1) / (p * z) = q' ∧ (u + 1) % (p * z) = r' := by
    intro q' r' h0 h1 e
    rw [e, Int.add_comm]
    exact ⟨by rw [Int.add_mul_ediv_left _ _ (by omega), Int.ediv_eq_zero_of_lt h0 h1]; omega, by rw [Int.add_mul_emod_self_left, Int.emod_eq_of_lt h0 h1]⟩
  have hxz : (x + 1) * p ≤ z * p := Int.mul_le_mul_of_nonneg_right (by omega) (by omega)
  have hdz : (d + 1) * p ≤ z * p := Int.mul_le_mul_of_nonneg_right (by omega) (by omega)
  rw [Int.add_mul, Int.one_mul, Int.mul_comm z p] at hxz hdz
  have x0 : 0 ≤ x * p := Int.mul_nonneg hx.1 (by omega)
  have three : (d = x) ∨ (d < x ∧ d * p + p ≤ x * p) ∨ (x < d ∧ x * p + p ≤ d * p) := by
    rcases Int.lt_trichotomy d x with h | h | h
    · refine .inr (.inl ⟨h, ?_⟩)
      have := Int.mul_le_mul_of_nonneg_right (show d + 1 ≤ x by omega) (show 0 ≤ p by omega)
      rw [Int.add_mul, Int.one_mul] at this; exact this
    · exact .inl h
    · refine .inr (.inr ⟨h, ?_⟩)
      have := Int.mul_le_mul_of_nonneg_right (show x + 1 ≤ d by omega) (show 0 ≤ p by omega)
      rw [Int.add_mul, Int.one_mul] at this; exact this
  by_cases hl : r + 1 < p * z
  · obtain ⟨e1, e2⟩ := wrap q (r + 1) (by omega) hl (by omega)
    rw [e1, e2]
    rcases three with h | ⟨h, k⟩ | ⟨h, k⟩
    · rw [if_pos h]; subst h; omega
    · rw [if_neg (by omega)]; omega
    · rw [if_neg (by omega)]; omega
  · obtain ⟨e1, e2⟩ := wrap (q + 1) 0 (by omega) (by omega) (by rw [Int.mul_add, Int.mul_one]; omega)
    rw [e1, e2, Int.add_mul, Int.one_mul]
    rcases three with h | ⟨h, k⟩ | ⟨h, k⟩
    · rw [if_pos h]; subst h; omega
    · -- r + 1 = p z, d = z - 1
      exfalso
      omega
    · rw [if_neg (by omega)]; omega
end Go.Proofs.Ytigiegdkfgjmcaa
