/- Tickets and their texts: what is read of what is written. -/
import Derived.Test.YtcbhlljgcndhdaaGreatDoorRdE
import Derived.Test.YtcbhlljgcndhdaaGreatDoorLrd
import Derived.Test.YtcbhlljgcndhdaaGreatDoorTkC
import Derived.Lib.ParseIntB
import Derived.Lib.ParseIntBTie
namespace Go.Proofs.YtcbhlljgcndhdaaGreatDoor
open Go.RowKit
set_option linter.unusedVariables false
set_option linter.unusedSimpArgs false
theorem parseM_k (M K : Nat) (hKM : K ≤ M) (hK : K < 1844674407370955162) : ∀ (l : List UInt8) (acc : Nat), acc ≤ K → l.all digB = true → l.foldl (fun n x => 10 * n + (x.toNat - 48)) acc ≤ K → Lib.parseUintM M acc l = .ok (l.foldl (fun n x => 10 * n + (x.toNat - 48)) acc)
  | [], acc, _, _, _ => rfl
  | x :: r, acc, ha, hd, hle => by
    simp only [List.all_cons, Bool.and_eq_true] at hd
    have hx := hd.1
    simp [digB] at hx
    have mono : ∀ (r : List UInt8) (a : Nat), a ≤ r.foldl (fun n x => 10 * n + (x.toNat - 48)) a := by
      intro r
      induction r with
      | nil => intro a; exact Nat.le_refl _
      | cons y r ih => intro a; exact Nat.le_trans (by omega) (ih (10 * a + (y.toNat - 48)))
    have h2 := mono r (10 * acc + (x.toNat - 48))
    simp only [List.foldl_cons] at hle ⊢
    rw [Lib.parseUintM, if_pos (by omega), if_neg (by omega), if_neg (by omega), show acc * 10 + (x.toNat - 48) = 10 * acc + (x.toNat - 48) by omega]
    exact parseM_k M K hKM hK r _ (by omega) hd.2 hle
theorem parse64_num {l : List UInt8} (h : l ≠ []) (hd : l.all digB = true) (hle : numV l ≤ 1000000) : Lib.parseIntB 64 l = .ok (numV l : Int) := by
  match l, h with
  | c :: r, _ =>
    have hc : 48 ≤ c.toNat ∧ c.toNat ≤ 57 := by
      simp only [List.all_cons, Bool.and_eq_true] at hd
      have := hd.1
      simpa [digB] using this
    have e : Lib.parseUintB 64 (c :: r) = .ok (numV (c :: r)) := by
      unfold Lib.parseUintB
      rw [if_neg (by simp)]
      exact parseM_k _ 1000000 (by decide) (by decide) (c :: r) 0 (by omega) hd hle
    unfold Lib.parseIntB
    simp only
    rw [if_neg (by omega), e]
    simp only
    rw [if_neg (by omega), if_neg (by omega), if_neg (by omega)]
/-- a number at sixty-four bits -/
def pi64 (l : List UInt8) : Option Int := match Lib.parseIntB 64 l with | .ok v => some v | _ => none
theorem pi64_out {l : List UInt8} {v : Int} (h : pi64 l = some v) : Lib.parseIntB 64 l = .ok v := by
  unfold pi64 at h
  cases hh : Lib.parseIntB 64 l with
  | ok u => rw [hh] at h; injection h with h; rw [h]
  | «syntax» => rw [hh] at h; cases h
  | range => rw [hh] at h; cases h
theorem pi64_bd {l : List UInt8} {v : Int} (h : pi64 l = some v) : -9223372036854775808 ≤ v ∧ v ≤ 9223372036854775807 := by
  have := Lib.parseIntB_bounds (pi64_out h)
  simp at this
  omega
theorem cut_oneK (c : UInt8) (p q : List UInt8) (h : c ∉ p) : Lib.cut (p ++ c :: q) [c] = (p, q, true) := by
  unfold Lib.cut
  rw [Lib.index_one, indexByte_app c q p h, if_pos (by omega)]
  simp only [Int.toNat_natCast, List.length_cons, List.length_nil]
  rw [List.take_left' rfl, show p ++ c :: q = (p ++ [c]) ++ q by simp, List.drop_left' (by simp)]
theorem cut_lenK (s : List UInt8) (c : List UInt8) : (Lib.cut s c).1.length ≤ s.length ∧ (Lib.cut s c).2.1.length ≤ s.length := by
  unfold Lib.cut
  split
  · constructor
    · simp; omega
    · simp
  · simp
theorem join_mem (c x : UInt8) : ∀ ps : List (List UInt8), x ∈ Lib.join ps [c] → x = c ∨ ∃ p ∈ ps, x ∈ p
  | [], h => by simp [Lib.join] at h
  | [p], h => by rw [Lib.join_one] at h; exact .inr ⟨p, by simp, h⟩
  | p :: q :: r, h => by
    rw [join_two] at h
    simp only [List.mem_append, List.mem_cons] at h
    rcases h with h | h | h
    · exact .inr ⟨p, by simp, h⟩
    · exact .inl h
    · rcases join_mem c x (q :: r) h with e | ⟨p', hp, hx⟩
      · exact .inl e
      · exact .inr ⟨p', List.mem_cons_of_mem _ hp, hx⟩
theorem dg_digs {zs : List Int} {l : List UInt8} {ds : List Int} (ho : okL zs = true) (h : Dg zs l ds) : ∀ p ∈ spl 58 l, p.all digB = true := fun p hp => by
  obtain ⟨h1, h8, hz⟩ := okL_mem ho
  obtain ⟨i, hi, rfl⟩ := List.getElem_of_mem hp
  have hi2 : i < zs.length := by rw [← h.2.1]; exact hi
  have e := (h.2.2.1 (zs.length - 1 - i) (by omega)).2
  rw [show zs.length - 1 - (zs.length - 1 - i) = i by omega, List.getElem?_eq_getElem hi] at e
  injection e with e
  rw [e]
  refine (dgT_facts _ _ ?_ (h.2.2.1 (zs.length - 1 - i) (by omega)).1).2.2.1
  unfold ug
  rw [List.getElem?_eq_getElem (by omega)]
  exact hz _ (List.getElem_mem _)
theorem dg_nosp {zs : List Int} {l : List UInt8} {ds : List Int} (ho : okL zs = true) (h : Dg zs l ds) : (32 : UInt8) ∉ l := fun hm => by
  rw [← join_spl 58 l] at hm
  rcases join_mem 58 32 _ hm with e | ⟨p, hp, hx⟩
  · cases e
  · have := List.all_eq_true.1 (dg_digs ho h p hp) _ hx
    cases this
theorem dec_nosp (n : Nat) (h : n < 1000000000) : (32 : UInt8) ∉ Lib.decDigits n := fun hm => by
  have := List.all_eq_true.1 (dec_digs n h) _ hm
  cases this
theorem dec_some (n : Nat) : Lib.decDigits n ≠ [] := by rw [Lib.decDigits]; split <;> simp
theorem Dg.nonneg {zs : List Int} {l : List UInt8} {ds : List Int} (h : Dg zs l ds) : ∀ j, j < 8 → 0 ≤ ug ds j := fun j hj => by
  by_cases c : j < zs.length
  · exact (h.2.2.1 j c).1.1
  · rw [h.2.2.2 j (by omega) hj]; exact Int.le_refl _
theorem Dg.le {zs : List Int} {l : List UInt8} {ds : List Int} (ho : okL zs = true) (h : Dg zs l ds) : ∀ j, j < 8 → ug ds j ≤ 255 := fun j hj => by
  by_cases c : j < zs.length
  · have a := (h.2.2.1 j c).1.2
    have b := (okL_mem ho).2.2 _ (List.getElem_mem c)
    unfold ug at a
    rw [List.getElem?_eq_getElem c] at a
    simp only [Option.getD_some] at a
    unfold ug
    omega
  · rw [h.2.2.2 j (by omega) hj]; decide
/-- this ticket has this text -/
def TkT (zs : List Int) (l : List UInt8) (n : Int) (ds : List Int) (c : Int) : Prop := ds.length = 8 ∧ (∀ j, j < 8 → 0 ≤ ug ds j) ∧ genV zs ds n c = true ∧ tkT zs ds n c = l
theorem genV_chk {zs ds : List Int} {n c : Int} (h : genV zs ds n c = true) : c = chk n ds := by
  simp only [genV, Bool.and_eq_true, decide_eq_true_eq, beq_iff_eq] at h
  exact h.2.2
theorem tk_parts {zs : List Int} {l : List UInt8} {n c : Int} {ds : List Int} (h : TkT zs l n ds c) : ∃ a b : Nat, n = a ∧ c = b ∧ a ≤ 1000000 ∧ b ≤ 65535 ∧ okL zs = true ∧ Dg zs (txD zs ds) ds ∧ l = Lib.decDigits a ++ 32 :: (txD zs ds ++ 32 :: Lib.decDigits b) := by
  obtain ⟨h8, hp, hg, ht⟩ := h
  obtain ⟨hn, hv, hc⟩ := genV_out hg
  refine ⟨n.toNat, c.toNat, by omega, by omega, by omega, by omega, (okV_out hv).1, Dg.of h8 hp hv, ?_⟩
  obtain ⟨a, rfl⟩ : ∃ a : Nat, n = a := ⟨n.toNat, by omega⟩
  obtain ⟨b, rfl⟩ : ∃ b : Nat, c = b := ⟨c.toNat, by omega⟩
  rw [← ht]
  unfold tkT
  rw [itoa_nat, itoa_nat, txD_yes hv]
  simp
theorem tk_spl {zs : List Int} {l : List UInt8} {n c : Int} {ds : List Int} {a b : Nat} (ha : a ≤ 1000000) (hb : b ≤ 65535) (ho : okL zs = true) (hd : Dg zs (txD zs ds) ds) (hl : l = Lib.decDigits a ++ 32 :: (txD zs ds ++ 32 :: Lib.decDigits b)) : spl 32 l = [Lib.decDigits a, txD zs ds, Lib.decDigits b] := by
  rw [hl, spl_app 32 _ _ (dec_nosp a (by omega)), spl_app 32 _ _ (dg_nosp ho hd), spl_one 32 _ (dec_nosp b (by omega))]
theorem TkT.uniq {zs : List Int} {l : List UInt8} {n c m d : Int} {ds es : List Int} (h : TkT zs l n ds c) (k : TkT zs l m es d) : n = m ∧ ds = es ∧ c = d := by
  obtain ⟨a, b, rfl, e2, ha, hb, ho, hd, hl⟩ := tk_parts h
  obtain ⟨a', b', rfl, e2', ha', hb', _, hd', hl'⟩ := tk_parts k
  have s := tk_spl (n := 0) (c := 0) ha hb ho hd hl
  rw [tk_spl (n := 0) (c := 0) ha' hb' ho hd' hl'] at s
  injection s with s1 s2
  injection s2 with s2 s3
  have e1 : a = a' := by rw [← (can_of a (by omega)).2, ← (can_of a' (by omega)).2, s1]
  have e3 : ds = es := hd.uniq ho (by rw [← s2]; exact hd')
  subst e1; subst e3
  refine ⟨rfl, rfl, ?_⟩
  rw [genV_chk h.2.2.1, genV_chk k.2.2.1]
theorem tk_yes {zs : List Int} {l x y z : List UInt8} {ds : List Int} (ho : okL zs = true) (hs : spl 32 l = [x, y, z]) (hx : canB x = true) (hy : Dg zs y ds) (hz : canB z = true) (hg : gen zs ds (numV x) (numV z) = true) : TkT zs l (numV x) ds (numV z) := by
  have hv := hy.valid ho
  refine ⟨hy.1, hy.nonneg, by rw [genV_of ho]; exact hg, ?_⟩
  unfold tkT
  rw [itoa_nat, itoa_nat, of_can hx, of_can hz, ← txD_yes hv, hy.text ho, ← join_spl 32 l, hs, join_two, join_two, Lib.join_one]
  simp
theorem tk_out {zs : List Int} {l x y z : List UInt8} {n c : Int} {ds : List Int} (hs : spl 32 l = [x, y, z]) (h : TkT zs l n ds c) : canB x = true ∧ Dg zs y ds ∧ canB z = true ∧ numV z ≤ 65535 ∧ gen zs ds (numV x) (numV z) = true := by
  obtain ⟨a, b, e1, e2, ha, hb, ho, hd, hl⟩ := tk_parts h
  rw [tk_spl (n := 0) (c := 0) ha hb ho hd hl] at hs
  injection hs with s1 s2
  injection s2 with s2 s3
  injection s3 with s3 _
  have p := can_of a (by omega); have q := can_of b (by omega)
  rw [← s1, ← s2, ← s3, p.2, q.2]
  refine ⟨p.1, hd, q.1, hb, ?_⟩
  rw [← e1, ← e2, ← genV_of ho]
  exact h.2.2.1
theorem tk_three {zs : List Int} {l : List UInt8} {n c : Int} {ds : List Int} (h : TkT zs l n ds c) : (spl 32 l).length = 3 := by
  obtain ⟨a, b, e1, e2, ha, hb, ho, hd, hl⟩ := tk_parts h
  rw [tk_spl (n := 0) (c := 0) ha hb ho hd hl]
  rfl
/-- the program's words -/
def kA (l : List UInt8) : List UInt8 := (Lib.cut l [32]).1
def kB (l : List UInt8) : List UInt8 := (Lib.cut (Lib.cut l [32]).2.1 [32]).1
theorem tk_cut {zs : List Int} {l : List UInt8} {n c : Int} {ds : List Int} (h : TkT zs l n ds c) : pi64 (kA l) = some n ∧ Dg zs (kB l) ds ∧ tkR zs ds n (chk n ds) = l := by
  have hc := genV_chk h.2.2.1
  have ht : tkR zs ds n (chk n ds) = l := by rw [← hc, tkR_yes h.2.2.1]; exact h.2.2.2
  obtain ⟨a, b, e1, e2, ha, hb, ho, hd, hl⟩ := tk_parts h
  have c1 : Lib.cut l [32] = (Lib.decDigits a, txD zs ds ++ 32 :: Lib.decDigits b, true) := by
    rw [hl]
    exact cut_oneK 32 _ _ (dec_nosp a (by omega))
  have c2 : Lib.cut (txD zs ds ++ 32 :: Lib.decDigits b) [32] = (txD zs ds, Lib.decDigits b, true) := cut_oneK 32 _ _ (dg_nosp ho hd)
  refine ⟨?_, ?_, ht⟩
  · unfold kA pi64
    rw [c1]
    simp only
    have p := can_of a (by omega)
    rw [parse64_num (dec_some a) (dec_digs a (by omega)) (by rw [p.2]; exact ha), p.2, e1]
  · unfold kB
    rw [c1]
    simp only
    rw [c2]
    exact hd
theorem tk_impl {zs : List Int} {l : List UInt8} {n : Int} {ds : List Int} (hp : pi64 (kA l) = some n) (hd : Dg zs (kB l) ds) (he : tkR zs ds n (chk n ds) = l) : TkT zs l n ds (chk n ds) := by
  cases hg : genV zs ds n (chk n ds) with
  | true => exact ⟨hd.1, hd.nonneg, hg, by rw [← tkR_yes hg]; exact he⟩
  | false =>
    rw [tkR_no hg] at he
    rw [← he] at hp
    cases (show pi64 (kA []) = none from rfl).symm.trans hp
/-- what ReadTicket gives -/
def RkG (zs : List Int) (l : List UInt8) (w : World) (e : Ending) (w' : World) : Prop := ∃ (n : Int) (ds : List Int) (c k : Int), e = .returned (.tuple #[.agg (.int .i64 n :: (ds.map (Value.int .u8) ++ [.int .u16 c])).toArray, .int .i64 k]) ∧ Below w.heap.size w w' ∧
  ((okL zs = false ∧ n = 0 ∧ ds = [0, 0, 0, 0, 0, 0, 0, 0] ∧ c = 0 ∧ k = 1) ∨ (okL zs = true ∧ ((TkT zs l n ds c ∧ k = 0) ∨ ((¬ ∃ m es d, TkT zs l m es d) ∧ n = 0 ∧ ds = [0, 0, 0, 0, 0, 0, 0, 0] ∧ c = 0 ∧ k = 5))))
/-- both give the same -/
theorem RkG.same {zs : List Int} {l : List UInt8} : ∃ (n e0 e1 e2 e3 e4 e5 e6 e7 c k : Int), ∀ (w : World) (e : Ending) (w' : World), RkG zs l w e w' → e = .returned (.tuple #[.agg #[.int .i64 n, .int .u8 e0, .int .u8 e1, .int .u8 e2, .int .u8 e3, .int .u8 e4, .int .u8 e5, .int .u8 e6, .int .u8 e7, .int .u16 c], .int .i64 k]) ∧ Below w.heap.size w w' := by
  by_cases hok : okL zs = false
  · refine ⟨0, 0, 0, 0, 0, 0, 0, 0, 0, 0, 1, fun w e w' h => ?_⟩
    obtain ⟨n, ds, c, k, rfl, hB, ⟨_, rfl, rfl, rfl, rfl⟩ | ⟨ho, _⟩⟩ := h
    · exact ⟨rfl, hB⟩
    · rw [hok] at ho; cases ho
  · have hok : okL zs = true := by simpa using hok
    by_cases hex : ∃ m es d, TkT zs l m es d
    · obtain ⟨m, es, d, hes⟩ := hex
      obtain ⟨e0, e1, e2, e3, e4, e5, e6, e7, rfl⟩ := len8 hes.1
      refine ⟨m, e0, e1, e2, e3, e4, e5, e6, e7, d, 0, fun w e w' h => ?_⟩
      obtain ⟨n, ds, c, k, rfl, hB, ⟨ho, _⟩ | ⟨_, ⟨hd, rfl⟩ | ⟨hn, _⟩⟩⟩ := h
      · rw [hok] at ho; cases ho
      · obtain ⟨rfl, rfl, rfl⟩ := hd.uniq hes; exact ⟨rfl, hB⟩
      · exact absurd ⟨_, _, _, hes⟩ hn
    · refine ⟨0, 0, 0, 0, 0, 0, 0, 0, 0, 0, 5, fun w e w' h => ?_⟩
      obtain ⟨n, ds, c, k, rfl, hB, ⟨ho, _⟩ | ⟨_, ⟨hd, rfl⟩ | ⟨_, rfl, rfl, rfl, rfl⟩⟩⟩ := h
      · rw [hok] at ho; cases ho
      · exact absurd ⟨_, _, _, hd⟩ hex
      · exact ⟨rfl, hB⟩
end Go.Proofs.YtcbhlljgcndhdaaGreatDoor
