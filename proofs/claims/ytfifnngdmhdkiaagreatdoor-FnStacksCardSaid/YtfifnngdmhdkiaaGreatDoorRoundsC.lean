/- A region that draws its order and ends in a call behind which nothing is known of the cells that are read before it: what the call waits for may be taken first. -/
import Derived.Test.YtfifnngdmhdkiaaGreatDoorRounds
namespace Go.Proofs.YtfifnngdmhdkiaaGreatDoor
open Go

section
variable {F : Fence} {n : Nat} {P : Program} {ops : Array Oper} {Q : Exit → Act → World → Prop} {md : Region.Mode} {S : World → Prop} {c : Nat}

/-- whichever order is picked, S holding behind every operation but the call -/
def anyC (F : Fence) (n : Nat) (P : Program) (md : Region.Mode) (ops : Array Oper) (Q : Exit → Act → World → Prop) (S : World → Prop) (c : Nat) : Nat → Array Bool → Act → World → Prop
  | 0, listed, a, w => Region.ready md ops listed = [] ∧ Q .normal a w
  | fuel + 1, listed, a, w => (Region.ready md ops listed = [] → Q .normal a w) ∧
    ∀ j ∈ Region.ready md ops listed, wpOpIn F n P ops Q j (fun a' w' => (j ≠ c → S w' ∧ anyC F n P md ops Q S c fuel (listed.setIfInBounds j true) a' w') ∧ (j = c → wpAnyIn F n P md ops Q fuel (listed.setIfInBounds j true) a' w')) a w
theorem anyC_any : ∀ (fuel : Nat) (listed : Array Bool) (a : Act) (w : World), anyC F n P md ops Q S c fuel listed a w → wpAnyIn F n P md ops Q fuel listed a w
  | 0, _, _, _, h => h
  | fuel + 1, _, _, _, h => ⟨h.1, fun i hi => wpOpIn_mono (fun a' w' h' => by
      by_cases e : i = c
      · exact h'.2 e
      · exact anyC_any fuel _ a' w' (h'.1 e).2) (h.2 i hi)⟩
/-- q waits for p -/
def waits (md : Region.Mode) (ops : Array Oper) (p q : Nat) : Bool := match ops[q]? with | some o => o.after.any (fun e => Region.binds md e && e.on == p) | none => false
def chain (md : Region.Mode) (ops : Array Oper) : Nat → List Nat → Bool
  | _, [] => true
  | p, q :: L => waits md ops p q && chain md ops q L
theorem waits_no {p q : Nat} {listed : Array Bool} (h : waits md ops p q = true) (hu : listed.getD p true = false) : q ∉ Region.ready md ops listed := fun hq => by
  obtain ⟨_, o, ho, hall⟩ := mem_ready.1 hq
  unfold waits at h
  rw [ho] at h
  dsimp only at h
  rw [← Array.any_toList, List.any_eq_true] at h
  obtain ⟨e, he', hb⟩ := h
  have he : e ∈ o.after := by simpa using he'
  simp only [Bool.and_eq_true, beq_iff_eq] at hb
  have q1 := hall e he hb.1
  rw [hb.2] at q1
  rcases Nat.lt_or_ge p listed.size with h' | h'
  · simp [h'] at hu q1; rw [hu] at q1; cases q1
  · simp [Array.getElem?_eq_none h'] at q1
theorem chain_no {listed : Array Bool} : ∀ (L : List Nat) (p : Nat), chain md ops p L = true → listed.getD p true = false → (∀ q ∈ L, listed.getD q true = false) → ∀ q ∈ L, q ∉ Region.ready md ops listed
  | [], _, _, _, _, q, hq => by cases hq
  | r :: L, p, h, hp, hu, q, hq => by
    simp only [chain, Bool.and_eq_true] at h
    rcases List.mem_cons.1 hq with rfl | hq
    · exact waits_no h.1 hp
    · exact chain_no L r h.2 (hu r (by simp)) (fun x hx => hu x (List.mem_cons_of_mem _ hx)) q hq

theorem anyC_first {i : Nat} {oi : Oper} {v : Value} {L : List Nat} (hc : c ∈ L) (hch : chain md ops i L = true) (hic : i ≠ c) (hd : NoDefer ops) (hi : ops[i]? = some oi) (hsel : ∀ (j : Nat) (o : Oper) cs b, ops[j]? = some o → o.op ≠ .select cs b)
    (hQ : ∀ c a w, Q (.panic c) (a.put oi.dst v) w → Q (.panic c) a w) : ∀ (fuel : Nat) (listed : Array Bool) (a : Act) (w : World), (∀ q ∈ L, listed.getD q true = false) →
      (∀ j oj, ops[j]? = some oj → j ≠ i → listed.getD j true = false → (∀ e ∈ oj.after, Region.binds md e = true → e.on ≠ i) → oi.apart ops oj = true) →
      i ∈ Region.ready md ops listed → Gives P ops S oi v a → S w → anyC F n P md ops Q S c fuel (listed.setIfInBounds i true) (a.put oi.dst v) w → anyC F n P md ops Q S c (fuel + 1) listed a w
  | 0, listed, a, w, _, _, hr, hy, hS, H => by
    refine ⟨fun h => (by rw [h] at hr; cases hr), fun j hj => ?_⟩
    by_cases hji : j = i
    · subst hji; exact hy.now hd hi hS ⟨fun _ => ⟨hS, H⟩, fun e => absurd e hic⟩
    · have := ready_mono hj hji
      rw [H.1] at this
      cases this
  | fuel + 1, listed, a, w, hun0, hfree, hr, hy, hS, H => by
    refine ⟨fun h => (by rw [h] at hr; cases hr), fun j hj => ?_⟩
    by_cases hji : j = i
    · subst hji; exact hy.now hd hi hS ⟨fun _ => ⟨hS, H⟩, fun e => absurd e hic⟩
    · have hnL : ∀ q ∈ L, q ≠ j := fun q hq e => chain_no L i hch (mem_ready.1 hr).1 hun0 q hq (by rw [e]; exact hj)
      have hjc : j ≠ c := fun e => hnL c hc e.symm
      obtain ⟨hjun, oj, hoj, hall⟩ := mem_ready.1 hj
      have hnot : ∀ e ∈ oj.after, Region.binds md e = true → e.on ≠ i := fun e he hb heq => by
        have q1 := hall e he hb
        have q0 := (mem_ready.1 hr).1
        rw [heq] at q1
        rcases Nat.lt_or_ge i listed.size with h' | h'
        · simp [h'] at q0 q1; rw [q0] at q1; cases q1
        · simp [Array.getElem?_eq_none h'] at q1
      have h2 := hy.past hd hoj (hfree j oj hoj hji hjun hnot) (fun cs b => hsel i oi cs b hi) (fun cs b => hsel j oj cs b hoj) hQ (H.2 j (ready_mono hj hji))
      refine wpOpIn_mono (fun a' w' h3 => ⟨fun _ => ⟨(h3.2.1 hjc).1, anyC_first hc hch hic hd hi hsel hQ fuel (listed.setIfInBounds j true) a' w' (fun q hq => ?_) (fun k ok hk hki hun hno => ?_) (ready_mono hr (Ne.symm hji)) h3.1 (h3.2.1 hjc).1 ?_⟩, fun e => absurd e hjc⟩) h2
      · rw [getD_set_ne true (fun e => hnL q hq e.symm)]; exact hun0 q hq
      · refine hfree k ok hk hki ?_ hno
        by_cases hjk : j = k
        · subst hjk; exact hjun
        · rw [getD_set_ne true hjk] at hun; exact hun
      · rw [Array.setIfInBounds_comm _ _ hji]
        exact (h3.2.1 hjc).2
def unlB (listed : Array Bool) (L : List Nat) : Bool := L.all fun q => listed.getD q true == false
theorem unl_of {listed : Array Bool} {L : List Nat} (h : unlB listed L = true) : ∀ q ∈ L, listed.getD q true = false := fun q hq => by
  have := (List.all_eq_true.1 h) q hq
  simpa using this
/-- operation i, which leads to the call by the chain L, is taken first -/
theorem anyC_takeD {i : Nat} (L : List Nat) (d : Option Nat) {oi : Oper} {v : Value} {fuel : Nat} {listed : Array Bool} {a : Act} {w : World} (hc : (L.contains c && chain md ops i L && !(i == c) && unlB listed L) = true) (hd : NoDefer ops) (hi : ops[i]? = some oi) (hdst : oi.dst = d)
    (hs : Region.noSelect ops = true) (hf : Region.free md ops listed i = true) (hr : (Region.ready md ops listed).contains i = true) (hQ : ∀ c a w, Q (.panic c) (a.put d v) w → Q (.panic c) a w)
    (hy : Gives P ops S oi v a) (hS : S w) (h : anyC F n P md ops Q S c fuel (listed.setIfInBounds i true) (a.put d v) w) : anyC F n P md ops Q S c (fuel + 1) listed a w := by
  subst hdst
  simp only [Bool.and_eq_true, Bool.not_eq_true', beq_eq_false_iff_ne, ne_eq] at hc
  exact anyC_first (by simpa using hc.1.1.1) hc.1.1.2 hc.1.2 hd hi (Region.noSelect_spec hs) hQ fuel listed a w (unl_of hc.2) (Region.free_spec hi hf) (by simpa using hr) hy hS h
/-- the call, when it alone may come up -/
theorem anyC_call {o : Oper} {fuel : Nat} {listed : Array Bool} {a : Act} {w : World} (hr : Region.ready md ops listed = [c]) (ho : ops[c]? = some o) (hw : Region.wanted o (yielded ops a.tmps) = true)
    (h : ∀ K : Act → World → Prop, (∀ a w, wpAnyIn F n P md ops Q fuel (listed.setIfInBounds c true) a w → K a w) → Oper.wpIn F n P o a w K Q) : anyC F n P md ops Q S c (fuel + 1) listed a w :=
  ⟨fun h0 => (by rw [hr] at h0; cases h0), fun j hj => by
    rw [hr] at hj
    obtain rfl : j = c := by simpa using hj
    unfold wpOpIn
    simp only [ho, hw, if_true]
    exact h _ (fun a w hk => ⟨fun e => absurd rfl e, fun _ => hk⟩)⟩
theorem region_call (c : Nat) {id : Nat} {a : Act} {w : World} (hm : P.follows .mixedOrders = true) (hd : noDeferB ops = true) (h : NoDefer ops → anyC F n P .any ops Q S c ops.size (Array.replicate ops.size false) a w.drew) : (Code.region id ops true).wpIn F n P Q a w :=
  wpIn_region_any hm (anyC_any _ _ _ _ (h (noDefer_of hd)))
end
end Go.Proofs.YtfifnngdmhdkiaaGreatDoor
