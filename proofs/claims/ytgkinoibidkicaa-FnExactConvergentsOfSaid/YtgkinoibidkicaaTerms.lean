/- The terms of a ratio: the program's and the model's. -/
import Derived.Test.YtgkinoibidkicaaTermsM
import Derived.Test.YtgkinoibidkicaaOwnI
import Derived.Test.YtgkinoibidkicaaOpenR
import Derived.Laws.StructEq
import Derived.Deep.DeepCutAuto
namespace Go.Proofs.Ytgkinoibidkicaa
open Go.RowKit
theorem owns_below {w w' : World} {base size n : Nat} {e : TypeId} {v : Value} {xs : List Value} (h : w.ownsRow base e size v n xs) (hb : Below w.heap.size w w') : w'.ownsRow base e size v n xs := by
  refine ⟨h.1, ?_⟩
  rcases h.2 with h0 | ⟨g, cap, cur, h1, h2, h3, h4⟩
  · exact .inl h0
  · exact .inr ⟨g, cap, cur, h1, h2, (hb.block g (lt_of_block h3)).trans h3, h4⟩
theorem Row.grown {w w' : World} {g : Nat} {e : TypeId} {xs : List Value} {o : Option Nat} (h : Row w g e xs) (hg : w.grownBy w' o) (hne : some g ≠ o) : Row w' g e xs := (hg.block g h.lt hne).trans h
theorem own_type {w : World} {base size n g : Nat} {e e' : TypeId} {v : Value} {xs ys : List Value} (h : w.ownsRow base e size v n xs) (r : Row w g e' ys) (hne : e ≠ e') : some g ≠ v.ownBlock := fun he => by
  rcases h.2 with ⟨rfl, _⟩ | ⟨g', cap, cur, rfl, h2, h3, _⟩
  · cases he
  · have : g = g' := Option.some.inj he
    subst this
    have := h3.symm.trans r
    simp only [Option.some.injEq, Obj.cells.injEq] at this
    exact hne this.2.1
theorem Try.infoI64' : (Try.prog.info? 2).map (fun i => (i.zero, i.size, i.bytes)) = some (some (.int .i64 0), 1, 8) := by kernel_rfl
theorem ratio_under : Try.prog.underlying 27 = some (.struct (Try.prog.fieldsOf 27)) := by rw [Program.fieldsOf, Try.underlying27]
theorem ratio_eqIn (a b c d : Int) (w : World) : Sem.run Try.prog (Op.equalIn 10000 27 (.agg #[.int .i64 a, .int .i64 b]) (.agg #[.int .i64 c, .int .i64 d])) w = .ok (a == c && b == d) w := by
  have k : Try.prog.underlying 2 = some (.int .i64) := Try.underlying2
  obtain ⟨fs, hf, hu⟩ : ∃ fs, Try.prog.fieldsOf 27 = fs ∧ Try.prog.underlying 27 = some (.struct fs) := ⟨_, rfl, ratio_under⟩
  have hfs := Option.some.inj (Try.underlying27.symm.trans hu)
  simp only [TypeDesc.struct.injEq] at hfs
  subst hfs
  rw [run_equalIn_struct w 9999 27 _ _ ratio_under (by kernel_rfl), hf]
  by_cases h1 : a = c
  · subst h1
    by_cases h2 : b = d
    · subst h2
      simp [Op.eqFields, go_sem, run_equalIn_int _ _ _ _ _ _ _ k]
    · simp [Op.eqFields, go_sem, run_equalIn_int _ _ _ _ _ _ _ k, h2]
  · simp [Op.eqFields, go_sem, run_equalIn_int _ _ _ _ _ _ _ k, h1]
theorem ratio_neq (a b c d : Int) (w : World) : Sem.run Try.prog (binOp .neq 27 (.agg #[.int .i64 a, .int .i64 b]) (.agg #[.int .i64 c, .int .i64 d])) w = .ok (.bool (!(a == c && b == d))) w := by
  rw [run_neq_struct, ratio_eqIn]; rfl
theorem ratio_eql (a b c d : Int) (w : World) : Sem.run Try.prog (binOp .eql 27 (.agg #[.int .i64 a, .int .i64 b]) (.agg #[.int .i64 c, .int .i64 d])) w = .ok (.bool (a == c && b == d)) w := by
  rw [run_eql_struct, ratio_eqIn]; rfl
def leftP (p q : Int) : Int := if p % q = 0 then 0 else q
def leftQ (p q : Int) : Int := p % q
set_option maxHeartbeats 1000000 in
theorem left_any (p q : Int) (hp : 0 ≤ p) (hp' : p ≤ 1000000000) (hq : 1 ≤ q) (hq' : q ≤ 1000000000) (w : World) :
    Calls Try.prog 20 #[.agg #[.int .i64 p, .int .i64 q]] w (GivesB w (.agg #[.int .i64 (leftP p q), .int .i64 (leftQ p q)])) := by
  have m0 := Int.emod_nonneg p (show q ≠ 0 by omega)
  have m1 := Int.emod_lt_of_pos p (show 0 < q by omega)
  have e1 : p.tmod q = p % q := Int.tmod_eq_emod_of_nonneg hp
  have n1 : q ≠ 0 := by omega
  obtain ⟨W, hW⟩ : ∃ W, W = ((w.alloc (.cells #[.int .i64 p, .int .i64 q] 27)).alloc (.cells #[.int .i64 0, .int .i64 0] 27)) := ⟨_, rfl⟩
  have bW : Below w.heap.size w W := by rw [hW]; exact (box2_bel w _ _ _).alloc (by simp) _
  have bE := hid bW
  have r1 : Row W (w.heap.size + 1) 27 [.int .i64 0, .int .i64 0] := by
    have h := Row.new (w.alloc (.cells #[.int .i64 p, .int .i64 q] 27)) 27 [.int .i64 0, .int .i64 0]
    simp only [World.size_alloc] at h
    rw [hW]; exact h
  have R1 := hid r1
  have hW2 := hid hW
  clear bW r1 hW
  unfold leftP leftQ
  obtain ⟨m, hm⟩ : ∃ m, p % q = m := ⟨_, rfl⟩
  rw [hm] at m0 m1 e1 ⊢
  by_cases h0 : m = 0
  · subst h0
    rw [if_pos rfl]
    go_enter Try.func20, Try.ntmps20
    go_wp2_with fail
    exact bodyPost_ret (v := .agg #[.int .i64 0, .int .i64 0]) (by simp [results, Try.results20, go_sem]) rfl ⟨rfl, by rw [← hW2.out]; exact bE.out⟩
  · rw [if_neg h0]
    have d1 : (m == 0) = false := by simp [h0]
    go_enter Try.func20, Try.ntmps20
    go_wp2_with fail
    go_region
    go_wp2_with fail
    exact bodyPost_ret (v := .agg #[.int .i64 q, .int .i64 m]) (by simp [results, Try.results20, go_sem]) rfl ⟨rfl, ((box2_bel w _ _ _).alloc (by simp) _).drew⟩
theorem owns_other {w : World} {base size n : Nat} {e : TypeId} {v : Value} {xs : List Value} (h : w.ownsRow base e size v n xs) {a : Addr} (hne : some a.block ≠ v.ownBlock) (u : Value) : (w.setCell a u).ownsRow base e size v n xs := by
  refine ⟨h.1, ?_⟩
  rcases h.2 with h0 | ⟨g, cap, cur, h1, h2, h3, h4⟩
  · exact .inl h0
  · refine .inr ⟨g, cap, cur, h1, h2, (Below.heap_setCell w a u g (fun he => hne ?_)).trans h3, h4⟩
    rw [h1, ← he]; rfl
def TermsR (w : World) (p q : Int) (e : Ending) (w' : World) : Prop := ∃ v, e = .returned v ∧ OwnI w' w.heap.size v (termsL p q) ∧ Below w.heap.size w w'
def measT (s : Value) (w : World) : Nat := match s with
  | .pointer (some a) => (match w.cell? ⟨a.block, 1, none⟩ with | some (.int _ q) => q.toNat | _ => 0)
  | _ => 0
theorem measT_at {w : World} {g : Nat} {T : TypeId} {a : Value} {q : Int} (h : Row w g T [a, .int .i64 q]) : measT (.pointer (some ⟨g, 0, none⟩)) w = q.toNat := by
  have := h.cell 1
  simp only [List.getElem?_cons_zero, List.getElem?_cons_succ] at this
  simp only [measT, this]
/-- where the program is with the terms -/
def TmAt (p q P Q : Int) (l : List Int) : Prop := (P = 0 ∧ Q = 0 ∧ l = termsL p q) ∨ (0 ≤ P ∧ P ≤ 1000000000 ∧ 1 ≤ Q ∧ Q ≤ 1000000000 ∧ l ++ termsL P Q = termsL p q)
theorem TmAt.step {p q P Q : Int} {l : List Int} (h1 : 0 ≤ P) (h2 : P ≤ 1000000000) (h3 : 1 ≤ Q) (h4 : Q ≤ 1000000000) (h : l ++ termsL P Q = termsL p q) : TmAt p q (leftP P Q) (leftQ P Q) (l ++ [P / Q]) := by
  have m0 := Int.emod_nonneg P (show Q ≠ 0 by omega)
  have m1 := Int.emod_lt_of_pos P (show 0 < Q by omega)
  rw [termsL_step P Q h3] at h
  unfold leftP leftQ
  by_cases h0 : P % Q = 0
  · rw [if_pos h0, h0]
    rw [h0, termsL_zero] at h
    exact .inl ⟨rfl, rfl, h⟩
  · rw [if_neg h0]
    exact .inr ⟨by omega, h4, by omega, by omega, by rw [← h]; simp⟩
theorem TmAt.len {p q P Q : Int} {l : List Int} (hq : 1 ≤ q ∧ q ≤ 1000000000) (h : TmAt p q P Q l) : l.length ≤ 1000000000 := by
  have a := termsL_len p q (by omega)
  rcases h with ⟨_, _, rfl⟩ | ⟨_, _, _, _, h⟩
  · omega
  · have := congrArg List.length h
    rw [List.length_append] at this
    omega
set_option maxRecDepth 100000 in
set_option maxHeartbeats 2000000 in
theorem terms_any (p q : Int) (hp : 1 ≤ p ∧ p ≤ 1000000000) (hq : 1 ≤ q ∧ q ≤ 1000000000) (w : World) :
    Calls Try.prog 15 #[.agg #[.int .i64 p, .int .i64 q]] w (TermsR w p q) := by
  obtain ⟨i0, hi, iz0, iz1, iz2⟩ := info_parts Try.infoI64'
  have hT := hid (show TmAt p q p q [] from .inr ⟨by omega, hp.2, hq.1, hq.2, rfl⟩)
  have HQ := hid hq
  clear hp hq
  have r0 : Row ((w.alloc (.cells #[.int .i64 p, .int .i64 q] 27)).alloc (.cells #[.int .i64 p, .int .i64 q] 27)) (w.heap.size + 1) 27 [.int .i64 p, .int .i64 q] := by
    have h := Row.new (w.alloc (.cells #[.int .i64 p, .int .i64 q] 27)) 27 [.int .i64 p, .int .i64 q]
    simp only [World.size_alloc] at h
    exact h
  have b0 : Below w.heap.size w ((w.alloc (.cells #[.int .i64 p, .int .i64 q] 27)).alloc (.cells #[.int .i64 p, .int .i64 q] 27)) := (box2_bel w _ _ _).alloc (by simp) _
  have R0 := hid r0
  have B0 := hid b0
  clear r0 b0
  have hg : Try.prog.eqGuardType Try.prog.depth 27 = false := by kernel_rfl
  go_enter Try.func15, Try.ntmps15
  go_wp2_with fail
  go_loopw [3, 4] (fun v s wr => ∃ (g : Nat) (P Q : Int) (l : List Int), s = .pointer (some ⟨g, 0, none⟩) ∧ Row wr g 27 [.int .i64 P, .int .i64 Q] ∧ wr.ownsRow w.heap.size 2 1 v l.length (l.map (Value.int .i64)) ∧ Below w.heap.size w wr ∧ w.heap.size ≤ g ∧ TmAt p q P Q l) (fun _ s wr => measT s wr)
  case atStart => exact ⟨w.heap.size + 1, p, q, [], rfl, R0.out, World.ownsRow_nil _ _ _ _, B0.out, by omega, hT.out⟩
  case round =>
    obtain ⟨g, P, Q, l, rfl, hrow, hown, hB, hgw, hat⟩ := hrel
    have hll := TmAt.len HQ.out hat
    have hzr := hB.size
    have hgl := hrow.lt
    have HO := hid hown
    have HR := hid hrow
    have HM := hid (measT_at hrow)
    have HB := hid hB
    have c0 := hrow.cell 0
    have c1 := hrow.cell 1
    simp only [List.getElem?_cons_zero, List.getElem?_cons_succ] at c0 c1
    clear hown hrow hB
    rcases hat with ⟨rfl, rfl, hl⟩ | ⟨p1, p2, p3, p4, hl⟩
    · have hE : ∀ w, Sem.run Try.prog (binOp .neq 27 (.agg #[.int .i64 0, .int .i64 0]) (.agg #[.int .i64 0, .int .i64 0])) w = .ok (.bool false) w := fun w => by rw [ratio_neq]; rfl
      have HL := hid hl
      clear hl
      go_wp2_with fail
      go_ret
      exact ⟨_, rfl, OwnI.of_owns (by rw [← HL.out]; exact HO.out) (by rw [← HL.out]; omega), HB.out⟩
    · have hE : ∀ w, Sem.run Try.prog (binOp .neq 27 (.agg #[.int .i64 P, .int .i64 Q]) (.agg #[.int .i64 0, .int .i64 0])) w = .ok (.bool true) w := fun w => by
        rw [ratio_neq]
        have e : (Q == 0) = false := by simp; omega
        rw [e]; simp
      have HS := hid (TmAt.step p1 p2 p3 p4 hl)
      have HF := hid (fun w => left_any P Q p1 p2 p3 p4 w)
      have q0 := Int.ediv_nonneg p1 (show 0 ≤ Q by omega)
      have q1 := Int.ediv_le_self Q p1
      have e1 : P.tdiv Q = P / Q := Int.tdiv_eq_ediv_of_nonneg p1
      have m0 := Int.emod_nonneg P (show Q ≠ 0 by omega)
      have m1 := Int.emod_lt_of_pos P (show 0 < Q by omega)
      have HQ2 := hid (show leftQ P Q < Q from m1)
      have HQ0 := hid (show 0 ≤ leftQ P Q from m0)
      obtain ⟨t, ht⟩ : ∃ t, P / Q = t := ⟨_, rfl⟩
      obtain ⟨P', hP'⟩ : ∃ t, leftP P Q = t := ⟨_, rfl⟩
      obtain ⟨Q', hQ'⟩ : ∃ t, leftQ P Q = t := ⟨_, rfl⟩
      rw [ht] at HS q0 q1 e1
      rw [hP', hQ'] at HS HF
      rw [hQ'] at HQ2 HQ0
      have n1 : Q ≠ 0 := by omega
      have t1 : IntKind.i64.wrap t = t := IntWalk.i64_in _ (by omega)
      have HO1 := hid (HO.out.alloc (.cells #[.int .i64 t] 2))
      have news := Row.new wr 2 [.int .i64 t]
      have nc := news.cell 0
      simp only [List.getElem?_cons_zero] at nc
      have HR1 := hid (HR.out.alloc (.cells #[.int .i64 t] 2))
      have HB1 := hid (HB.out.alloc hzr (.cells #[.int .i64 t] 2))
      clear hl hP' hQ' m0 m1 news
      go_upto_region 6 with (at_builtin; refine wpList_append_own _ rfl _ _ 34 rfl w.heap.size 2 i0 (.int .i64 0) 1 8 Try.underlying34 hi iz0 iz1 iz2 rfl (by decide) _ _ _ rfl HO1.out ⟨wr.heap.size, 0, none⟩ 1 1 [.int .i64 t] rfl rfl (by intro j u hj; match j, hj with | 0, hj => simp at hj; subst hj; simp [Addr.add, nc]) (by intro u hu; simp at hu; subst hu; rfl) (by unfold maxLen; omega) (by omega) (by simp; omega) ?_; intro v' w2 hown' hgrow _)
      have hg2 : (wr.alloc (.cells #[.int .i64 t] 2)).grownBy w2 u3.ownBlock := hgrow
      have HR2 := HR1.out.grown hg2 (own_type HO1.out HR1.out (by decide))
      have hgs := hg2.size
      simp only [World.size_alloc] at hgs
      have HB2 := HB1.out.grown hg2 (by simp; omega) (fun k e => by have := (HO1.out.lt k e).1; omega)
      have hl2 : (l ++ [t]).length = l.length + 1 := by simp
      have hown2 : w2.ownsRow w.heap.size 2 1 v' (l ++ [t]).length ((l ++ [t]).map (Value.int .i64)) := by rw [hl2, List.map_append]; exact hown'
      have d0 := HR2.cell 0
      have d1 := HR2.cell 1
      simp only [List.getElem?_cons_zero, List.getElem?_cons_succ] at d0 d1
      have QB := Row.new w2 27 [.int .i64 P, .int .i64 Q]
      have HO3 := hid (hown2.alloc (.cells #[.int .i64 P, .int .i64 Q] 27))
      have HB3 := hid (HB2.alloc (by omega) (.cells #[.int .i64 P, .int .i64 Q] 27))
      have f0 := QB.cell 0
      have f1 := QB.cell 1
      simp only [List.getElem?_cons_zero, List.getElem?_cons_succ] at f0 f1
      have HQB := hid QB
      clear hown' hgrow hg2 HR2 HB2 hown2 QB c0 c1 nc HO1 HR1 HB1 hl2
      go_wp2_with fail
      refine (HF.out _).mono ?_
      rintro e w3 ⟨rfl, hB3⟩
      have hy3 := hB3.size
      simp only [World.size_alloc] at hB3 hy3
      have r3 := HQB.out.below hB3 (by omega)
      have o3 := owns_below HO3.out (hB3.mono (by simp))
      have b3 := HB3.out.trans (hB3.mono (by omega))
      clear d0 d1 f0 f1 hB3
      have d0 := r3.cell 0
      have d1 := r3.cell 1
      have g0 := r3.frozen 0
      have g1 := r3.frozen 1
      simp only [List.getElem?_cons_zero, List.getElem?_cons_succ] at d0 d1
      have ne := own_type o3 r3 (by decide)
      have R4 := hid ((r3.set 0 (.int .i64 P')).set 1 (.int .i64 Q'))
      have O4 := hid (owns_other (owns_other o3 (a := ⟨w2.heap.size, 0, none⟩) ne (.int .i64 P')) (a := ⟨w2.heap.size, 1, none⟩) ne (.int .i64 Q'))
      have B4 := hid ((b3.setCell (p := ⟨w2.heap.size, 0, none⟩) (by show w.heap.size ≤ w2.heap.size; omega) (.int .i64 P')).setCell (p := ⟨w2.heap.size, 1, none⟩) (by show w.heap.size ≤ w2.heap.size; omega) (.int .i64 Q'))
      clear r3 o3 b3 ne
      go_wp2_with fail
      go_roundw
      case rel => exact ⟨w2.heap.size, P', Q', l ++ [t], rfl, R4.out, O4.out, B4.out, by omega, HS.out⟩
      case measure =>
        have a := measT_at (q := Q') R4.out
        have b := HM.out
        have c := HQ2.out
        have d := HQ0.out
        refine (show measT (.pointer (some ⟨w2.heap.size, 0, none⟩)) _ < measT (.pointer (some ⟨g, 0, none⟩)) wr from ?_)
        rw [a, b]
        omega
def termsR (p q : Int) : List Int × Int := if okR p q then (termsL p q, 0) else ([], 1)
theorem termsR_no {p q : Int} (h : okR p q = false) : termsR p q = ([], 1) := by simp [termsR, h]
theorem termsR_yes {p q : Int} (h : okR p q = true) : termsR p q = (termsL p q, 0) := by simp [termsR, h]
def OwnR (w : World) (r : List Int × Int) (e : Ending) (w' : World) : Prop := ∃ v, e = .returned (.tuple #[v, .int .i64 r.2]) ∧ OwnI w' w.heap.size v r.1 ∧ Below w.heap.size w w'
theorem OwnI.base {w : World} {b b' : Nat} {v : Value} {zs : List Int} (h : OwnI w b v zs) (hb : b' ≤ b) : OwnI w b' v zs := by
  obtain ⟨a, cap, h1, h2, h3⟩ := h
  refine ⟨a, cap, h1, h2, ?_⟩
  rcases h3 with h0 | ⟨g, rest, e, hg, hr⟩
  · exact .inl h0
  · exact .inr ⟨g, rest, e, Nat.le_trans hb hg, hr⟩
set_option maxRecDepth 100000 in
set_option maxHeartbeats 2000000 in
theorem l03Terms_any (p q : Int) (hp : 1 ≤ p ∧ p ≤ 1000000000) (hq : 1 ≤ q ∧ q ≤ 1000000000) (w : World) :
    Calls Try.prog 12 #[.agg #[.int .i64 p, .int .i64 q]] w (TermsR w p q) := by
  obtain ⟨i0, hi, iz0, iz1, iz2⟩ := info_parts Try.infoI64'
  have hT := hid (show (0 ≤ p ∧ p ≤ 1000000000 ∧ 0 ≤ q ∧ q ≤ 1000000000 ∧ [] ++ termsL p q = termsL p q) from ⟨by omega, hp.2, by omega, hq.2, rfl⟩)
  have HQ := hid hq
  have bE := hid (box2_bel w 27 (.int .i64 p) (.int .i64 q))
  clear hp hq
  have bW : Below w.heap.size w ((w.alloc (.cells #[.int .i64 p, .int .i64 q] 27)).alloc (.cells #[] 2)) := bE.out.alloc (by simp) _
  have oW : ((w.alloc (.cells #[.int .i64 p, .int .i64 q] 27)).alloc (.cells #[] 2)).ownsRow w.heap.size 2 1 (.slice (some ⟨w.heap.size + 1, 0, none⟩) 0 0) 0 [] := by
    have h := Row.new (w.alloc (.cells #[.int .i64 p, .int .i64 q] 27)) 2 []
    simp only [World.size_alloc] at h
    exact ⟨rfl, .inr ⟨w.heap.size + 1, 0, #[], rfl, by omega, h, by omega, by unfold maxLen; omega, rfl, rfl⟩⟩
  have BW := hid bW
  have OW := hid oW
  clear bW oW
  go_enter Try.func12, Try.ntmps12
  go_wp2_with fail
  go_loopw [3, 4, 5] (fun v s t wr => ∃ (P Q : Int) (l : List Int), s = .int .i64 P ∧ t = .int .i64 Q ∧ wr.ownsRow w.heap.size 2 1 v l.length (l.map (Value.int .i64)) ∧ Below w.heap.size w wr ∧ (0 ≤ P ∧ P ≤ 1000000000 ∧ 0 ≤ Q ∧ Q ≤ 1000000000 ∧ l ++ termsL P Q = termsL p q)) (fun _ _ t _ => (intOf t).toNat)
  case atStart => exact ⟨p, q, [], rfl, rfl, OW.out, BW.out, hT.out⟩
  case round =>
    obtain ⟨P, Q, l, rfl, rfl, hown, hB, p1, p2, p3, p4, hl⟩ := hrel
    have hll : l.length ≤ 1000000000 := by
      have a := termsL_len p q (by have := HQ.out; omega)
      have b := congrArg List.length hl
      rw [List.length_append] at b
      have := HQ.out
      omega
    have hzr := hB.size
    have HO := hid hown
    have HB := hid hB
    have HL := hid hl
    clear hown hB hl
    by_cases h0 : Q = 0
    · subst h0
      have HL2 := hid (show l = termsL p q by have := HL.out; rw [termsL_zero, List.append_nil] at this; exact this)
      go_wp2_with fail
      go_ret
      exact ⟨_, rfl, OwnI.of_owns (by rw [← HL2.out]; exact HO.out) (by rw [← HL2.out]; omega), HB.out⟩
    · have q0 := Int.ediv_nonneg p1 p3
      have q1 := Int.ediv_le_self Q p1
      have e1 : P.tdiv Q = P / Q := Int.tdiv_eq_ediv_of_nonneg p1
      have e2 : P.tmod Q = P % Q := Int.tmod_eq_emod_of_nonneg p1
      have m0 := Int.emod_nonneg P h0
      have m1 := Int.emod_lt_of_pos P (show 0 < Q by omega)
      have HS := hid (show (l ++ [P / Q]) ++ termsL Q (P % Q) = termsL p q by have := HL.out; rw [termsL_step P Q (by omega)] at this; rw [← this]; simp)
      obtain ⟨t, ht⟩ : ∃ t, P / Q = t := ⟨_, rfl⟩
      obtain ⟨m, hm⟩ : ∃ t, P % Q = t := ⟨_, rfl⟩
      rw [ht, hm] at HS
      rw [ht] at q0 q1 e1
      rw [hm] at m0 m1 e2
      have n1 : Q ≠ 0 := h0
      have d1 : (Q == 0) = false := by simp [h0]
      have d2 : (Q != 0) = true := by simp [h0]
      have t1 : IntKind.i64.wrap t = t := IntWalk.i64_in _ (by omega)
      have HO1 := hid (HO.out.alloc (.cells #[.int .i64 t] 2))
      have news := Row.new wr 2 [.int .i64 t]
      have nc := news.cell 0
      simp only [List.getElem?_cons_zero] at nc
      have HB1 := hid (HB.out.alloc hzr (.cells #[.int .i64 t] 2))
      clear news h0
      go_upto_region 6 with (at_builtin; refine wpList_append_own _ rfl _ _ 34 rfl w.heap.size 2 i0 (.int .i64 0) 1 8 Try.underlying34 hi iz0 iz1 iz2 rfl (by decide) _ _ _ rfl HO1.out ⟨wr.heap.size, 0, none⟩ 1 1 [.int .i64 t] rfl rfl (by intro j u hj; match j, hj with | 0, hj => simp at hj; subst hj; simp [Addr.add, nc]) (by intro u hu; simp at hu; subst hu; rfl) (by unfold maxLen; omega) (by omega) (by simp; omega) ?_; intro v' w2 hown' hgrow _)
      have hg2 : (wr.alloc (.cells #[.int .i64 t] 2)).grownBy w2 u3.ownBlock := hgrow
      have HB2 := hid (HB1.out.grown hg2 (by simp; omega) (fun k e => by have := (HO1.out.lt k e).1; omega))
      have hl2 : (l ++ [t]).length = l.length + 1 := by simp
      have hown2 := hid (show w2.ownsRow w.heap.size 2 1 v' (l ++ [t]).length ((l ++ [t]).map (Value.int .i64)) by rw [hl2, List.map_append]; exact hown')
      clear hown' hgrow hg2 nc HO1 HB1 hl2 ht hm
      go_wp2_with fail
      go_roundw
      case rel => exact ⟨Q, m, l ++ [t], rfl, rfl, hown2.out, HB2.out, by omega, by omega, by omega, by omega, HS.out⟩
      case measure => simp [intOf]; omega
end Go.Proofs.Ytgkinoibidkicaa
