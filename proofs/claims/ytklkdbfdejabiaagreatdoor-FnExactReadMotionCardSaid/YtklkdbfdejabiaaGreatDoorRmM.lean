/- Motions and their texts: what is read of what is written. -/
import Derived.Test.YtklkdbfdejabiaaGreatDoorMtA
import Derived.Test.YtklkdbfdejabiaaGreatDoorRstM
import Derived.Lib.ParseIntB
import Derived.Lib.ParseIntBTie
namespace Go.Proofs.YtklkdbfdejabiaaGreatDoor
open Go.RowKit
set_option linter.unusedVariables false
set_option linter.unusedSimpArgs false
theorem parseM_numG (M : Nat) (hM : M < 1844674407370955162) : ∀ (l : List UInt8) (acc : Nat), acc ≤ M → l.all digB = true → l.foldl (fun n x => 10 * n + (x.toNat - 48)) acc ≤ M → Lib.parseUintM M acc l = .ok (l.foldl (fun n x => 10 * n + (x.toNat - 48)) acc)
  | [], acc, _, _, _ => rfl
  | x :: r, acc, ha, hd, hle => by
    simp only [List.all_cons, Bool.and_eq_true] at hd
    have hx := hd.1
    simp [digB] at hx
    have mono : ∀ (r : List UInt8) (a : Nat), a ≤ r.foldl (fun n x => 10 * n + (x.toNat - 48)) a := by
      intro r
      induction r with
      | nil => intro a; exact Nat.le_refl _
      | cons y r ih => intro a; exact Nat.le_trans (by omega) (ih (10 * a + (y.toNat - 48)))
    have h2 := mono r (10 * acc + (x.toNat - 48))
    simp only [List.foldl_cons] at hle ⊢
    rw [Lib.parseUintM, if_pos (by omega), if_neg (by omega), if_neg (by omega), show acc * 10 + (x.toNat - 48) = 10 * acc + (x.toNat - 48) by omega]
    exact parseM_numG M hM r _ (by omega) hd.2 hle
theorem parseI_num (B : Nat) (hB : 2 ^ B - 1 < 1844674407370955162) {l : List UInt8} (h : l ≠ []) (hd : l.all digB = true) (hle : numV l < 2 ^ (B - 1)) (h2 : 2 ^ (B - 1) ≤ 2 ^ B) : Lib.parseIntB B l = .ok (numV l : Int) := by
  match l, h with
  | c :: r, _ =>
    have hc : 48 ≤ c.toNat ∧ c.toNat ≤ 57 := by
      simp only [List.all_cons, Bool.and_eq_true] at hd
      have := hd.1
      simpa [digB] using this
    have e : Lib.parseUintB B (c :: r) = .ok (numV (c :: r)) := by
      unfold Lib.parseUintB
      rw [if_neg (by simp)]
      exact parseM_numG _ hB (c :: r) 0 (by omega) hd (by show numV (c :: r) ≤ _; omega)
    unfold Lib.parseIntB
    simp only
    rw [if_neg (by omega), e]
    simp only
    rw [if_neg (by omega), if_neg (by omega), if_neg (by omega)]
theorem spl_sumT (c : UInt8) : ∀ l, (spl c l).length ≤ l.length + 1
  | [] => by simp [spl]
  | x :: r => by
    have ih := spl_sumT c r
    unfold spl
    split
    · simp; omega
    · cases h : spl c r with
      | nil => exact absurd h (spl_ne c r)
      | cons p ps => rw [h] at ih; simp [hdA] at ih ⊢; omega
def pi16 (l : List UInt8) : Option Int := match Lib.parseIntB 16 l with | .ok v => some v | _ => none
theorem dig_no {p : List UInt8} {c : UInt8} (hc : digB c = false) (h : p.all digB = true) : c ∉ p := fun hm => by
  have := List.all_eq_true.1 h c hm
  rw [hc] at this; cases this
theorem dec_all (n : Nat) (h : n < 1000000000) : (Lib.decDigits n).all digB = true := by
  have := (can_of n h).1
  unfold canB at this
  simp only [Bool.and_eq_true] at this
  exact this.2
theorem dec_ne (n : Nat) : Lib.decDigits n ≠ [] := by rw [Lib.decDigits]; split <;> simp
def evT : List UInt8 := [101, 118, 101, 110]
def ltT : List UInt8 := [108, 97, 116, 101]
/-- what the program makes of a joint's word -/
def rjF (p : List UInt8) : Option (Int × Int) := if p = evT then some (0, 0) else if Lib.hasPrefix p ltT then (match pi16 (p.drop 4) with | some v => some (1, v) | none => none) else none
/-- what the model makes of it -/
def moW (p : List UInt8) : Option (Int × Int) := if p = evT then some (0, 0) else if 5 ≤ p.length ∧ p.take 4 = ltT ∧ canB (p.drop 4) = true ∧ numV (p.drop 4) < 1000 then some (1, (numV (p.drop 4) : Int)) else none
theorem moW_of {k f : Int} (h : okJ k f = true) : moW (mtW k f) = some (k, f) := by
  rcases okJ_out h with ⟨rfl, rfl⟩ | ⟨rfl, h0, h1⟩
  · rfl
  · obtain ⟨n, rfl⟩ : ∃ n : Nat, f = n := ⟨f.toNat, by omega⟩
    have c := can_of n (by omega)
    have e : mtW 1 (n : Int) = ltT ++ Lib.decDigits n := by rw [mtW, if_neg (by decide), itoa_nat]; rfl
    have l1 := dec_pos n
    have d : (ltT ++ Lib.decDigits n).drop 4 = Lib.decDigits n := rfl
    have t : (ltT ++ Lib.decDigits n).take 4 = ltT := by simp [ltT]
    rw [e, moW, if_neg (by intro q; have := congrArg List.head? q; simp [ltT, evT] at this), d, t, if_pos ⟨by simp [ltT]; omega, rfl, c.1, by rw [c.2]; omega⟩, c.2]
theorem moW_out {p : List UInt8} {k f : Int} (h : moW p = some (k, f)) : okJ k f = true ∧ p = mtW k f := by
  unfold moW at h
  split at h
  · rename_i e
    injection h with h; injection h with h1 h2
    subst h1; subst h2
    exact ⟨rfl, by rw [e]; rfl⟩
  · split at h
    · rename_i c
      injection h with h; injection h with h1 h2
      subst h1; subst h2
      refine ⟨okJ_late (by omega), ?_⟩
      rw [mtW, if_neg (by decide), itoa_nat, of_can c.2.2.1]
      exact (List.take_append_drop 4 p).symm.trans (by rw [c.2.1]; rfl)
    · cases h
theorem rjF_of {k f : Int} (h : okJ k f = true) : rjF (mtW k f) = some (k, f) := by
  rcases okJ_out h with ⟨rfl, rfl⟩ | ⟨rfl, h0, h1⟩
  · rfl
  · obtain ⟨n, rfl⟩ : ∃ n : Nat, f = n := ⟨f.toNat, by omega⟩
    have c := can_of n (by omega)
    have e : mtW 1 (n : Int) = ltT ++ Lib.decDigits n := by rw [mtW, if_neg (by decide), itoa_nat]; rfl
    have d : (ltT ++ Lib.decDigits n).drop 4 = Lib.decDigits n := rfl
    have p : pi16 (Lib.decDigits n) = some (n : Int) := by
      unfold pi16
      rw [parseI_num 16 (by decide) (dec_ne n) (dec_all n (by omega)) (by rw [c.2]; omega) (by decide), c.2]
    have hp : Lib.hasPrefix (ltT ++ Lib.decDigits n) ltT = true := by simp [Lib.hasPrefix]
    rw [e, rjF, if_neg (by intro q; have := congrArg List.head? q; simp [ltT, evT] at this), if_pos hp, d, p]
def isM (p : List UInt8) : Bool := (moW p).isSome
def moJs (ps : List (List UInt8)) : List (Int × Int) := ps.map fun p => (moW p).getD (0, 0)
theorem moJs_len (ps : List (List UInt8)) : (moJs ps).length = ps.length := by simp [moJs]
/-- the motion of words -/
def moP : List (List UInt8) → Option (List Int × List (Int × Int))
  | p :: ps => (match stkR p with | some zs => if ps.all isM && okM zs (moJs ps) then some (zs, moJs ps) else none | none => none)
  | [] => none
def moR (l : List UInt8) : Option (List Int × List (Int × Int)) := moP (spl 32 l)
theorem moJs_at {ps : List (List UInt8)} (h : ps.all isM = true) {k : Nat} (hk : k < ps.length) : ps[k]? = some (mtP (moJs ps) k) := by
  have hs : (moW ps[k]).isSome = true := List.all_eq_true.1 h _ (List.getElem_mem hk)
  obtain ⟨⟨a, b⟩, hab⟩ := Option.isSome_iff_exists.1 hs
  have e : (moJs ps)[k]? = some (a, b) := by rw [moJs, List.getElem?_map, List.getElem?_eq_getElem hk]; simp only [Option.map_some]; rw [hab]; rfl
  rw [List.getElem?_eq_getElem hk, mtP, jk, jf, e]
  exact congrArg some (moW_out hab).2
theorem moJs_words {ps : List (List UInt8)} (h : ps.all isM = true) : (List.range ps.length).map (mtP (moJs ps)) = ps := by
  apply List.ext_getElem?
  intro k
  by_cases hk : k < ps.length
  · rw [moJs_at h hk, List.getElem?_map, List.getElem?_range hk]; rfl
  · rw [List.getElem?_eq_none (by simp; omega), List.getElem?_eq_none (by omega)]
/-- what is read has the text -/
theorem moR_out {l : List UInt8} {zs : List Int} {js : List (Int × Int)} (h : moR l = some (zs, js)) : okM zs js = true ∧ mtR zs js = l ∧ ∃ ps, spl 32 l = txS zs :: ps ∧ ps.all isM = true ∧ js = moJs ps := by
  unfold moR at h
  cases hl : spl 32 l with
  | nil => exact absurd hl (spl_ne 32 l)
  | cons p ps =>
    rw [hl] at h
    simp only [moP] at h
    cases hp : stkR p with
    | none => rw [hp] at h; cases h
    | some ys =>
      rw [hp] at h
      simp only at h
      split at h
      · rename_i c
        simp only [Bool.and_eq_true] at c
        injection h with h; injection h with h1 h2
        subst h1; subst h2
        have ht := (stkR_text hp).2.1
        refine ⟨c.2, ?_, ps, by rw [ht], c.1, rfl⟩
        rw [mtR_yes c.2, mtA, moJs_len, moJs_words c.1, ht, ← hl, join_spl]
      · cases h
theorem txS_no32 {zs : List Int} (h : okL zs = true) : (32 : UInt8) ∉ txS zs := fun hm => by
  obtain ⟨h1, h8, hz⟩ := okL_mem h
  have key : ∀ (ws : List (List UInt8)), (∀ p ∈ ws, p.all digB = true) → ∀ x ∈ Lib.join ws [58], digB x = true ∨ x = 58 := fun ws => by
    induction ws with
    | nil => intro _ x hx; simp [Lib.join] at hx
    | cons p r ih =>
      intro hw x hx
      cases r with
      | nil =>
        rw [Lib.join_one] at hx
        exact .inl (List.all_eq_true.1 (hw p (by simp)) x hx)
      | cons q s =>
        rw [join_two] at hx
        rcases List.mem_append.1 hx with hx | hx
        · exact .inl (List.all_eq_true.1 (hw p (by simp)) x hx)
        · rcases List.mem_cons.1 hx with hx | hx
          · exact .inr hx
          · exact ih (fun y hy => hw y (by simp at hy ⊢; right; exact hy)) x hx
  rw [txS_yes h, txT_wds zs (fun z k => by have := hz z k; omega)] at hm
  rcases key _ (fun p hp => by
    simp only [wdsS, List.mem_reverse, List.mem_map] at hp
    obtain ⟨z, hzm, rfl⟩ := hp
    have := hz z hzm
    exact dec_digs _ (by omega)) 32 hm with h | h
  · exact absurd h (by decide)
  · exact absurd h (by decide)
theorem mtW_no32 {k f : Int} (h : okJ k f = true) : (32 : UInt8) ∉ mtW k f := fun hm => by
  rcases okJ_out h with ⟨rfl, rfl⟩ | ⟨rfl, h0, h1⟩
  · revert hm; decide
  · obtain ⟨n, rfl⟩ : ∃ n : Nat, f = n := ⟨f.toNat, by omega⟩
    rw [mtW, if_neg (by decide), itoa_nat] at hm
    rcases List.mem_append.1 hm with hm | hm
    · revert hm; decide
    · exact dig_no (by decide) (dec_all n (by omega)) hm
theorem mtA_spl {zs : List Int} {js : List (Int × Int)} (h : okM zs js = true) : spl 32 (mtA zs js js.length) = txS zs :: (List.range js.length).map (mtP js) := by
  obtain ⟨h1, h2, h3⟩ := okM_out h
  refine spl_join 32 _ (by simp) (fun p hp => ?_)
  rcases List.mem_cons.1 hp with rfl | hp
  · exact txS_no32 h1
  · simp only [List.mem_map, List.mem_range] at hp
    obtain ⟨k, hk, rfl⟩ := hp
    exact mtW_no32 (okJs_out h3 k hk)
/-- a valid motion is read of its text -/
theorem moR_of {zs : List Int} {js : List (Int × Int)} (h : okM zs js = true) : moR (mtR zs js) = some (zs, js) := by
  obtain ⟨h1, h2, h3⟩ := okM_out h
  have hw : ∀ k, k < js.length → moW (mtP js k) = some (jk js k, jf js k) := fun k hk => moW_of (okJs_out h3 k hk)
  have hall : ((List.range js.length).map (mtP js)).all isM = true := by
    rw [List.all_eq_true]
    intro p hp
    simp only [List.mem_map, List.mem_range] at hp
    obtain ⟨k, hk, rfl⟩ := hp
    unfold isM; rw [hw k hk]; rfl
  have hjs : moJs ((List.range js.length).map (mtP js)) = js := by
    apply List.ext_getElem?
    intro k
    by_cases hk : k < js.length
    · rw [moJs, List.map_map, List.getElem?_map, List.getElem?_range hk]
      simp only [Option.map_some, Function.comp]
      rw [hw k hk, List.getElem?_eq_getElem hk, jk, jf, List.getElem?_eq_getElem hk]
      rfl
    · rw [List.getElem?_eq_none (by rw [moJs_len]; simp; omega), List.getElem?_eq_none (by omega)]
  rw [moR, mtR_yes h, mtA_spl h]
  simp only [moP]
  rw [stkR_of h1]
  simp only
  rw [hall, hjs, h]
  rfl
theorem moR_bad {l p : List UInt8} {ps : List (List UInt8)} (hl : spl 32 l = p :: ps) (h : stkR p = none) : moR l = none := by
  rw [moR, hl, moP, h]
theorem moR_word {l p q : List UInt8} {ps : List (List UInt8)} (hl : spl 32 l = p :: ps) (hq : q ∈ ps) (h : moW q = none) : moR l = none := by
  cases hm : moR l with
  | none => rfl
  | some r =>
    obtain ⟨zs, js⟩ := r
    obtain ⟨_, _, qs, e, ha, _⟩ := moR_out hm
    rw [hl] at e
    injection e with _ e
    subst e
    have := List.all_eq_true.1 ha q hq
    unfold isM at this
    rw [h] at this
    cases this
theorem moR_yes {l p : List UInt8} {ps : List (List UInt8)} {zs : List Int} (hl : spl 32 l = p :: ps) (h : stkR p = some zs) (ha : ps.all isM = true) : moR l = if okM zs (moJs ps) then some (zs, moJs ps) else none := by
  rw [moR, hl]
  simp only [moP]
  rw [h]
  simp only
  rw [ha, Bool.true_and]
/-- the program's words -/
def wMo (t : ByteArray) : List ByteArray := Lib.splitB ⟨#[32]⟩ 0 (min 9 (t.size + 1) - 1) t
def rjJs (ps : List ByteArray) : List (Int × Int) := ps.map fun p => (rjF p.data.toList).getD (0, 0)
theorem rjJs_len (ps : List ByteArray) : (rjJs ps).length = ps.length := by simp [rjJs]
/-- the words that the program sees of a motion's text -/
theorem wMo_of {t : ByteArray} {zs : List Int} {js : List (Int × Int)} (h : moR t.data.toList = some (zs, js)) : ∃ p ps, wMo t = p :: ps ∧ stkR p.data.toList = some zs ∧ (∀ q ∈ ps, (rjF q.data.toList).isSome = true) ∧ rjJs ps = js := by
  obtain ⟨l, hl⟩ : ∃ l, t.data.toList = l := ⟨_, rfl⟩
  rw [hl] at h
  obtain ⟨hok, htx, qs, hsp, hqs, hjs⟩ := moR_out h
  obtain ⟨k1, k2, k3⟩ := okM_out hok
  have h8 := (okL_mem k1).2.1
  have hlen : js.length = qs.length := by rw [hjs, moJs_len]
  have hsum := spl_sumT 32 l
  have hsz : t.size = l.length := by rw [← hl, Array.length_toList]; rfl
  have hwq : qs = (List.range js.length).map (mtP js) := by rw [hjs, moJs_len, moJs_words hqs]
  have hw : (wMo t).map (·.data.toList) = spl 32 l := by
    unfold wMo
    rw [Lib.splitB_data, hl]
    have hle : (spl 32 l).length ≤ 8 := by rw [hsp]; simp; omega
    have e := splitK_join 32 (min 9 (t.size + 1) - 1) (spl 32 l) (spl_ne 32 l) (fun p hp => ?_) (by omega)
    · rw [join_spl] at e
      exact e
    · rw [hsp] at hp
      rcases List.mem_cons.1 hp with rfl | hp
      · exact txS_no32 k1
      · rw [hwq] at hp
        simp only [List.mem_map, List.mem_range] at hp
        obtain ⟨k, hk, rfl⟩ := hp
        exact mtW_no32 (okJs_out k3 k hk)
  cases hv : wMo t with
  | nil => rw [hv, hsp] at hw; cases hw
  | cons p ps =>
    rw [hv, hsp] at hw
    simp only [List.map_cons] at hw
    injection hw with w1 w2
    have hat : ∀ k (hk : k < ps.length), rjF ps[k].data.toList = js[k]? := fun k hk => by
      have hkj : k < js.length := by
        have := congrArg List.length w2
        simp at this
        omega
      have e2 : ps[k].data.toList = mtP js k := by
        have : (ps.map (·.data.toList))[k]? = some ps[k].data.toList := by rw [List.getElem?_map, List.getElem?_eq_getElem hk]; rfl
        rw [w2, hwq, List.getElem?_map, List.getElem?_range hkj] at this
        injection this with this
        exact this.symm
      rw [e2, mtP, rjF_of (okJs_out k3 k hkj), jk, jf, List.getElem?_eq_getElem hkj]
      rfl
    have hpl : ps.length = js.length := by
      have := congrArg List.length w2
      simp at this
      omega
    refine ⟨p, ps, rfl, by rw [w1]; exact stkR_of k1, fun q hq => ?_, ?_⟩
    · obtain ⟨k, hk, rfl⟩ := List.getElem_of_mem hq
      rw [hat k hk, List.getElem?_eq_getElem (by omega)]
      rfl
    · apply List.ext_getElem?
      intro k
      by_cases hk : k < ps.length
      · rw [rjJs, List.getElem?_map, List.getElem?_eq_getElem hk]
        simp only [Option.map_some]
        rw [hat k hk, List.getElem?_eq_getElem (by omega)]
        rfl
      · rw [List.getElem?_eq_none (by rw [rjJs_len]; omega), List.getElem?_eq_none (by omega)]
/-- refused: the first word, another word, or the text made again -/
theorem rm_first {t p : ByteArray} {ps : List ByteArray} (hw : wMo t = p :: ps) (h : stkR p.data.toList = none) : moR t.data.toList = none := by
  cases hm : moR t.data.toList with
  | none => rfl
  | some r =>
    obtain ⟨zs, js⟩ := r
    obtain ⟨p', ps', e, hz, _⟩ := wMo_of hm
    rw [hw] at e
    injection e with e1 e2
    subst e1
    rw [h] at hz
    cases hz
theorem rm_word {t p q : ByteArray} {ps : List ByteArray} (hw : wMo t = p :: ps) (hq : q ∈ ps) (h : rjF q.data.toList = none) : moR t.data.toList = none := by
  cases hm : moR t.data.toList with
  | none => rfl
  | some r =>
    obtain ⟨zs, js⟩ := r
    obtain ⟨p', ps', e, _, ha, _⟩ := wMo_of hm
    rw [hw] at e
    injection e with e1 e2
    subst e2
    have := ha q hq
    rw [h] at this
    cases this
theorem rm_no {t p : ByteArray} {ps : List ByteArray} {zs : List Int} (hw : wMo t = p :: ps) (hz : stkR p.data.toList = some zs) (he : mtR zs (rjJs ps) ≠ t.data.toList) : moR t.data.toList = none := by
  cases hm : moR t.data.toList with
  | none => rfl
  | some r =>
    obtain ⟨ys, js⟩ := r
    obtain ⟨p', ps', e, hy, _, hj⟩ := wMo_of hm
    rw [hw] at e
    injection e with e1 e2
    subst e1; subst e2
    rw [hz] at hy
    injection hy with hy
    subst hy
    rw [hj] at he
    exact absurd (moR_out hm).2.1 he
theorem rm_yes {t p : ByteArray} {ps : List ByteArray} {zs : List Int} (hw : wMo t = p :: ps) (hz : stkR p.data.toList = some zs) (he : mtR zs (rjJs ps) = t.data.toList) : moR t.data.toList = some (zs, rjJs ps) := by
  cases ho : okM zs (rjJs ps) with
  | true =>
    have := moR_of ho
    rw [he] at this
    exact this
  | false =>
    rw [mtR_no ho] at he
    have hs : t.size = 0 := by
      have : t.data.toList.length = t.size := by rw [Array.length_toList]; rfl
      rw [← he] at this
      simpa using this.symm
    have h1 : wMo t = [t] := by
      unfold wMo
      rw [hs]
      simp [Lib.splitB]
    rw [h1] at hw
    injection hw with hw _
    subst hw
    rw [← he] at hz
    have := stkR_text hz
    have k := this.1
    rw [this.2.2.2] at k
    exact absurd k (by decide)
end Go.Proofs.YtklkdbfdejabiaaGreatDoor
