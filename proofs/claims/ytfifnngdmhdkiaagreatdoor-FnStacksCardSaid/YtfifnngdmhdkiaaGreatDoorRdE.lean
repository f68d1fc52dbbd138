/- impl.ReadDigits. -/
import Derived.Test.YtfifnngdmhdkiaaGreatDoorRdD
import Derived.Test.YtfifnngdmhdkiaaGreatDoorRst
import Derived.Test.YtfifnngdmhdkiaaGreatDoorSet
import Derived.Laws.CopyOwn
import Derived.Laws.IdiomCopy
import Derived.Deep.RegionHeld3
namespace Go.Proofs.YtfifnngdmhdkiaaGreatDoor
open Go.RowKit
set_option linter.unusedVariables false
set_option linter.unusedSimpArgs false
theorem oper_copy_row {P : Program} (w : World) {o : Oper} {a : Act} {K : Act → World → Prop} {Q : Exit → Act → World → Prop}
    (d s : Operand) (dT sT : TypeId) (ho : o.op = .call { callee := .builtin .copy, args := #[d, s], argTypes := #[dT, sT] }) (elem : TypeId) (hu : P.underlying dT = some (.slice elem)) (hsz : (P.info? elem).map (·.size) = some 1)
    (g off dLen dCap sLen sCap : Nat) (ad : Addr) (hd : a.eval d = .slice (some ⟨g, off, none⟩) dLen dCap) (hs : a.eval s = .slice (some ad) sLen sCap) (t : TypeId)
    (cur : List Value) (hg : Row w g t cur) (cs : List Value) (hn : cs.length = Nat.min sLen dLen)
    (hsrc : ∀ j v, cs[j]? = some v → w.cell? (ad.add j) = some v) (hfit : off + cs.length ≤ cur.length) (h1 : ∀ v ∈ cs, v.oneCell' = true)
    (hK : ∀ w', Hid (Row w' g t (splice cur off cs)) → Hid (∀ B w0, Below B w0 w → B ≤ g → Below B w0 w') → w'.heap.size = w.heap.size → K (a.put o.dst (goInt cs.length)) w') : Oper.wp P o a w K Q := by
  have hg' : w.heap[g]? = some (.cells cur.toArray t (0, 0)) := hg
  have hrun := run_copy_row (P := P) w dT sT o.type elem g off dLen dCap ad sLen sCap cur.toArray t cs hu hsz hg' hn hsrc (by simpa using hfit) h1
  unfold Oper.wp
  simp [execOp, ho, resolve, invoke, builtin, hd, hs, hrun, Result.andThen]
  refine hK _ (hid ?_) (hid (fun B w0 hb hB => below_setRow hb hB _)) (by simp [World.setRow])
  have := setRow_heap w g cur.toArray (cur.toArray.toList.take off ++ (cs ++ cur.toArray.toList.drop (off + cs.length))).toArray t _ hg'
  simpa [splice, Row] using this

theorem len8 {xs : List Int} (h : xs.length = 8) : ∃ e0 e1 e2 e3 e4 e5 e6 e7, xs = [e0, e1, e2, e3, e4, e5, e6, e7] := by
  match xs, h with
  | [a, b, c, d, e, f, g, i], _ => exact ⟨a, b, c, d, e, f, g, i, rfl⟩
theorem oper_copy_none {P : Program} (w : World) {o : Oper} {a : Act} {K : Act → World → Prop} {Q : Exit → Act → World → Prop}
    (d s : Operand) (dT sT : TypeId) (ho : o.op = .call { callee := .builtin .copy, args := #[d, s], argTypes := #[dT, sT] }) (elem : TypeId) (hu : P.underlying dT = some (.slice elem)) (hsz : (P.info? elem).map (·.size) = some 1)
    (dp sp : Option Addr) (dLen dCap sLen sCap : Nat) (hd : a.eval d = .slice dp dLen dCap) (hs : a.eval s = .slice sp sLen sCap) (hn : Nat.min sLen dLen = 0)
    (hK : K (a.put o.dst (goInt 0)) w) : Oper.wp P o a w K Q := by
  have hrun := run_copy_none (P := P) w dT sT o.type elem dp sp dLen dCap sLen sCap hu hsz hn
  unfold Oper.wp
  simp [execOp, ho, resolve, invoke, builtin, hd, hs, hrun, Result.andThen]
  exact hK
theorem copy_src {w : World} {g k : Nat} {xs : List Int} (h : Stk w g xs) (hk : xs.length = k) : ∀ j u, ((xs.take 8).map (Value.int .u8))[j]? = some u → w.cell? ((⟨g, 0, none⟩ : Addr).add j) = some u := fun j u hj => by
  rw [show (⟨g, 0, none⟩ : Addr).add j = ⟨g, j, none⟩ from by unfold Addr.add; split <;> simp_all]
  have hjl : j < (xs.take 8).length := by
    have := List.getElem?_eq_some_iff.1 hj
    simpa using this.1
  have hj2 : j < xs.length := by simp at hjl; omega
  have := h.2.1 j hj2
  rw [this, ← hj, List.getElem?_map, List.getElem?_take, if_pos (by simp at hjl; omega), List.getElem?_eq_getElem hj2]
  rfl
theorem padD_nil : padD [] = [0, 0, 0, 0, 0, 0, 0, 0] := rfl
theorem padD_splice (xs : List Int) : splice ([0, 0, 0, 0, 0, 0, 0, 0] : List Int) 0 (xs.take 8) = padD xs := by
  unfold splice padD
  have e : (List.take 8 xs).length = min 8 xs.length := by simp
  rw [show ([0, 0, 0, 0, 0, 0, 0, 0] : List Int) = List.replicate 8 0 from rfl, List.take_zero, List.nil_append, Nat.zero_add, e, List.drop_replicate]
theorem splice_map {α β : Type} (f : α → β) (L : List α) (n : Nat) (cs : List α) : splice (L.map f) n (cs.map f) = (splice L n cs).map f := by
  unfold splice; simp
/-- what ReadDigits gives -/
def RdG (zs : List Int) (l : List UInt8) (w : World) (e : Ending) (w' : World) : Prop := ∃ (ds : List Int) (c : Int), e = .returned (.tuple #[.agg (ds.map (Value.int .u8)).toArray, .int .i64 c]) ∧ Below w.heap.size w w' ∧
  ((okL zs = false ∧ ds = [0, 0, 0, 0, 0, 0, 0, 0] ∧ c = 1) ∨ (okL zs = true ∧ ((Dg zs l ds ∧ c = 0) ∨ ((¬ ∃ es, Dg zs l es) ∧ ds = [0, 0, 0, 0, 0, 0, 0, 0] ∧ c = 5))))
set_option maxRecDepth 100000 in
set_option maxHeartbeats 4000000 in
theorem implReadDigits_any (b n cap : Nat) (zs : List Int) (hn : n = zs.length) (t : ByteArray) (ht : t.size ≤ 1048576) (w : World) (hS : Stk w b zs) {tS tR : TypeId} {pS pR : Value} {m : Int} (hL : LW w tS pS tR pR m) :
    Calls Tryz.prog 13 #[.slice (some ⟨b, 0, none⟩) n cap, .string t] w (RdG zs t.data.toList w) := by
  obtain ⟨R, hR⟩ : ∃ R, w.heap.size = R := ⟨_, rfl⟩
  have bR : Below R w (w.alloc (.cells #[.int .u8 0, .int .u8 0, .int .u8 0, .int .u8 0, .int .u8 0, .int .u8 0, .int .u8 0, .int .u8 0] 30)) := by rw [← hR]; exact (Below.refl _ _).alloc (Nat.le_refl _) _
  have rR := Row.new w 30 [.int .u8 0, .int .u8 0, .int .u8 0, .int .u8 0, .int .u8 0, .int .u8 0, .int .u8 0, .int .u8 0]
  rw [hR] at rR
  have HBR := hid bR; have HRR0 := hid rR; have HRR := hid hR; have HS := hid hS; have HL := hid hL; have HN := hid hn
  have HRB := hid (Nat.le_refl R)
  have HV := hid (fun W (h : Below R w W) => validStack_any b n cap zs W (hS.below h (by rw [← hR]; exact hS.1)) hn)
  have hbR : b < R := by rw [← hR]; exact hS.1
  clear hS hL hn bR rR
  by_cases hok : okL zs = false
  · rw [hok] at HV
    have HO := hid hok
    have b9 := HBR.out
    have r1 := HRR0.out
    have HVW := hid (HV.out _ b9)
    clear hok
    go_enter Tryz.func13, Tryz.ntmps13
    go_wp2_with fail
    refine HVW.out.mono ?_
    rintro e v9 ⟨rfl, hw⟩
    rw [hw] at r1 b9
    have g0 := r1.cell 0; have k0 := r1.frozen 0; have g1 := r1.cell 1; have k1 := r1.frozen 1; have g2 := r1.cell 2; have k2 := r1.frozen 2; have g3 := r1.cell 3; have k3 := r1.frozen 3; have g4 := r1.cell 4; have k4 := r1.frozen 4; have g5 := r1.cell 5; have k5 := r1.frozen 5; have g6 := r1.cell 6; have k6 := r1.frozen 6; have g7 := r1.cell 7; have k7 := r1.frozen 7
    simp only [List.getElem?_cons_zero, List.getElem?_cons_succ] at g0 g1 g2 g3 g4 g5 g6 g7
    have r2 := hid (r1.set8 rfl (.int .u8 0) (.int .u8 0) (.int .u8 0) (.int .u8 0) (.int .u8 0) (.int .u8 0) (.int .u8 0) (.int .u8 0))
    have b2 := hid (below_set8 (g := R) b9 HRB.out (.int .u8 0) (.int .u8 0) (.int .u8 0) (.int .u8 0) (.int .u8 0) (.int .u8 0) (.int .u8 0) (.int .u8 0))
    clear r1
    go_wp2_with fail
    clear g0 g1 g2 g3 g4 g5 g6 g7 k0 k1 k2 k3 k4 k5 k6 k7
    obtain ⟨W, hW⟩ : ∃ W, W = ((((((((v9.setCell ⟨R, 0, none⟩ (.int .u8 0)).setCell ⟨R, 1, none⟩ (.int .u8 0)).setCell ⟨R, 2, none⟩ (.int .u8 0)).setCell ⟨R, 3, none⟩ (.int .u8 0)).setCell ⟨R, 4, none⟩ (.int .u8 0)).setCell ⟨R, 5, none⟩ (.int .u8 0)).setCell ⟨R, 6, none⟩ (.int .u8 0)).setCell ⟨R, 7, none⟩ (.int .u8 0)) := ⟨_, rfl⟩
    rw [← hW] at r2 b2 ⊢
    clear hW
    have r2 := r2.out
    have g0 := r2.cell 0; have g1 := r2.cell 1; have g2 := r2.cell 2; have g3 := r2.cell 3; have g4 := r2.cell 4; have g5 := r2.cell 5; have g6 := r2.cell 6; have g7 := r2.cell 7
    simp only [List.getElem?_cons_zero, List.getElem?_cons_succ] at g0 g1 g2 g3 g4 g5 g6 g7
    exact bodyPost_ret (v := .tuple #[.agg #[.int .u8 0, .int .u8 0, .int .u8 0, .int .u8 0, .int .u8 0, .int .u8 0, .int .u8 0, .int .u8 0], .int .i64 1]) (by simp [results, Tryz.results13, go_sem, g0, g1, g2, g3, g4, g5, g6, g7]) rfl ⟨[0, 0, 0, 0, 0, 0, 0, 0], 1, rfl, by rw [HRR.out]; exact b2.out, .inl ⟨HO.out, rfl, rfl⟩⟩
  · have hok : okL zs = true := by simpa using hok
    rw [hok] at HV
    have HO := hid hok
    have b1 : Below R w ((w.alloc (.cells #[.int .u8 0, .int .u8 0, .int .u8 0, .int .u8 0, .int .u8 0, .int .u8 0, .int .u8 0, .int .u8 0] 30)).alloc (.cells #[.int .u8 0, .int .u8 0, .int .u8 0, .int .u8 0, .int .u8 0, .int .u8 0, .int .u8 0, .int .u8 0] 30)) := HBR.out.alloc (by simp; omega) _
    have rD := Row.new (w.alloc (.cells #[.int .u8 0, .int .u8 0, .int .u8 0, .int .u8 0, .int .u8 0, .int .u8 0, .int .u8 0, .int .u8 0] 30)) 30 [.int .u8 0, .int .u8 0, .int .u8 0, .int .u8 0, .int .u8 0, .int .u8 0, .int .u8 0, .int .u8 0]
    have rR1 := HRR0.out.alloc (.cells #[.int .u8 0, .int .u8 0, .int .u8 0, .int .u8 0, .int .u8 0, .int .u8 0, .int .u8 0, .int .u8 0] 30)
    simp only [World.size_alloc] at rD
    rw [HRR.out] at rD
    have HB1 := hid b1; have HRD := hid rD; have HRDd := hid (show Row ((w.alloc (.cells #[.int .u8 0, .int .u8 0, .int .u8 0, .int .u8 0, .int .u8 0, .int .u8 0, .int .u8 0, .int .u8 0] 30)).alloc (.cells #[.int .u8 0, .int .u8 0, .int .u8 0, .int .u8 0, .int .u8 0, .int .u8 0, .int .u8 0, .int .u8 0] 30)).drew (R + 1) 30 [.int .u8 0, .int .u8 0, .int .u8 0, .int .u8 0, .int .u8 0, .int .u8 0, .int .u8 0, .int .u8 0] from rD); have HRR1 := hid rR1
    have HVW := hid (HV.out _ HBR.out)
    have h9 : (w9 t).length ≤ 9 := by have := Lib.splitB_length_le ⟨#[58]⟩ 0 (min 9 (t.size + 1) - 1) t; unfold w9; omega
    have h1 : 1 ≤ (w9 t).length := by
      unfold w9
      cases hk : min 9 (t.size + 1) - 1 with
      | zero => simp [Lib.splitB]
      | succ k => unfold Lib.splitB; split <;> simp
    have hbd : ∀ z ∈ (w9 t).reverse.map pwI, 0 ≤ z ∧ z ≤ 255 := fun z hz => by
      simp only [List.mem_map] at hz
      obtain ⟨p, _, rfl⟩ := hz
      exact pwI_bd p
    have hlen : ((w9 t).reverse.map pwI).length = (w9 t).length := by simp
    have HDG := hid (fun ds (h : Dg zs t.data.toList ds) => w9_dg hok h)
    have HRL := hid (fun W (h : Below R w W) => implRlf_any t ht W (HL.out.below h (by omega)).1)
    unfold RlG at HRL
    obtain ⟨xs, hxs⟩ : ∃ xs, (w9 t).reverse.map pwI = xs := ⟨_, rfl⟩
    obtain ⟨al, hal⟩ : ∃ al, ((w9 t).all fun p => (pw p).isSome) = al := ⟨_, rfl⟩
    rw [hxs, hal] at HRL HDG
    rw [hxs] at hbd hlen
    obtain ⟨k, hk⟩ : ∃ n, (w9 t).length = n := ⟨_, rfl⟩
    rw [hk] at HRL hlen h9 h1
    have HBD := hid hbd; have HLEN := hid hlen
    clear hxs hal hk hbd hlen hok b1 rD rR1
    cases al with
    | true =>
      have HRT := hid (fun W (h : Below R w W) => (HRL.out W h).mono (fun e w' hh => show ∃ v, e = .returned v ∧ Below W.heap.size W w' ∧ w'.ownsRow W.heap.size 5 1 v k (xs.map (Value.int .u8)) from by
        obtain ⟨v, he, hB, ⟨_, ho⟩ | ⟨hf, _⟩⟩ := hh
        · exact ⟨v, he, hB, ho⟩
        · cases hf))
      have hmin : (xs.take 8).length = min 8 k := by rw [List.length_take, HLEN.out]
      have HCL := hid (show ((xs.take 8).map (Value.int .u8)).length = Nat.min k 8 from by rw [List.length_map, hmin]; exact Nat.min_comm 8 k)
      have hk9 : k ≤ 9 := h9
      have HFIT := hid (show 0 + ((xs.take 8).map (Value.int .u8)).length ≤ 8 from by rw [HCL.out]; have h : Nat.min k 8 ≤ 8 := Nat.min_le_right k 8; omega)
      clear HRL hmin h9
      go_enter Tryz.func13, Tryz.ntmps13
      go_wp2_with fail
      refine HVW.out.mono ?_
      rintro e v2 ⟨rfl, hw⟩
      subst hw
      go_wp2_with fail
      go_region_held3 (fun _ => True) (trivial)
        ((first | (go_at_call 38; refine (HRT.out _ HB1.out.drew).mono ?_; rintro e v3 ⟨v, rfl, hB3, hO3⟩; obtain ⟨g, cp, rfl, hg, hS3⟩ := owns_stk hO3 h1 HBD.out (by rw [HLEN.out]; omega); simp only [World.size_drew, World.size_alloc] at hB3) | (rw [if_pos (by kernel_rfl)]; refine oper_copy_row _ _ _ _ _ rfl 5 Tryz.underlying22 rfl (R + 1) 0 8 8 k cp ⟨g, 0, none⟩ rfl rfl 30 _ (HRDd.out.below hB3 (by have := HRR.out; omega)) ((xs.take 8).map (Value.int .u8)) HCL.out (fun j u hj => (copy_src hS3 HLEN.out j u hj)) HFIT.out (by intro u hu; simp only [List.mem_map] at hu; obtain ⟨z, _, rfl⟩ := hu; rfl) ?_; intro v4 HR4 HB4 hsz4)))
      have hz3 := hB3.size
      have rR4' := (show Row _ R 30 [.int .u8 0, .int .u8 0, .int .u8 0, .int .u8 0, .int .u8 0, .int .u8 0, .int .u8 0, .int .u8 0] from HRR1.out.below ((Below.refl _ _).drew.trans (show Below _ _ v3 from hB3)) (by have := HRR.out; omega))
      have hb4' := HB4.out R w ((HB1.out.drew).trans (show Below R _ v3 from hB3.mono (by have := HRR.out; omega))) (by omega)
      have rR4 : Row v4 R 30 [.int .u8 0, .int .u8 0, .int .u8 0, .int .u8 0, .int .u8 0, .int .u8 0, .int .u8 0, .int .u8 0] := by
        have := HB4.out (R + 1) _ (Below.refl (R + 1) v3 |>.mono (Nat.le_refl _)) (Nat.le_refl _)
        exact rR4'.below this (by omega)
      have rD4 := HR4.out
      rw [show ([.int .u8 0, .int .u8 0, .int .u8 0, .int .u8 0, .int .u8 0, .int .u8 0, .int .u8 0, .int .u8 0] : List Value) = ([0, 0, 0, 0, 0, 0, 0, 0] : List Int).map (Value.int .u8) from rfl, splice_map, padD_splice] at rD4
      have HPB := hid (padD_bd HBD.out)
      have HNX := hid (show ¬ (okV zs (padD xs) = true ∧ txD zs (padD xs) = t.data.toList) → ¬ ∃ es, Dg zs t.data.toList es from fun h ⟨es, he⟩ => by
        have := (HDG.out es he).2
        subst this
        exact h ⟨he.valid HO.out, he.text HO.out⟩)
      have HYES := hid (fun (h1 : okV zs (padD xs) = true) (h2 : txD zs (padD xs) = t.data.toList) => show Dg zs t.data.toList (padD xs) from by
        rw [← h2]
        refine Dg.of (padD_len xs) (fun j hj => ?_) h1
        unfold ug
        rw [List.getElem?_eq_getElem (by rw [padD_len]; exact hj)]
        exact (HPB.out _ (List.getElem_mem _)).1)
      obtain ⟨e0, e1, e2, e3, e4, e5, e6, e7, hE⟩ := len8 (padD_len xs)
      rw [hE] at rD4 HNX HYES HPB
      have HOC := hid (show Oct e0 e1 e2 e3 e4 e5 e6 e7 from ⟨HPB.out e0 (by simp), HPB.out e1 (by simp), HPB.out e2 (by simp), HPB.out e3 (by simp), HPB.out e4 (by simp), HPB.out e5 (by simp), HPB.out e6 (by simp), HPB.out e7 (by simp)⟩)
      simp only [List.map_cons, List.map_nil] at rD4
      have b4 := hb4'
      clear hE hb4' rR4' HR4 HB4 hsz4 hB3 hO3 hS3 hg hz3 HRT
      have S4 := HS.out.below b4 hbR
      have HVD := hid (validDigits_any b n cap zs e0 e1 e2 e3 e4 e5 e6 e7 v4 S4 HN.out HOC.out)
      obtain ⟨r, hr⟩ : ∃ r, okV zs [e0, e1, e2, e3, e4, e5, e6, e7] = r := ⟨_, rfl⟩
      rw [hr] at HVD
      have c0 := rD4.cell 0; have c1 := rD4.cell 1; have c2 := rD4.cell 2; have c3 := rD4.cell 3; have c4 := rD4.cell 4; have c5 := rD4.cell 5; have c6 := rD4.cell 6; have c7 := rD4.cell 7
      simp only [List.getElem?_cons_zero, List.getElem?_cons_succ] at c0 c1 c2 c3 c4 c5 c6 c7
      have HD4 := hid rD4; have HR4 := hid rR4; have HB4 := hid b4; have HS4 := hid S4
      have hz4 : R ≤ v4.heap.size := by have h := b4.size; have h2 := HRR.out; omega
      clear rD4 rR4 b4 S4
      cases r with
      | false =>
        have HNX2 := hid (HNX.out (fun h => by rw [hr] at h; cases h.1))
        clear hr
        go_wp2_with fail
        refine HVD.out.mono ?_
        rintro e v9 ⟨rfl, hB⟩
        have r1 := HR4.out.below hB HR4.out.lt
        have b9 := HB4.out.trans (hB.mono hz4)
        clear hB c0 c1 c2 c3 c4 c5 c6 c7
        have g0 := r1.cell 0; have k0 := r1.frozen 0; have g1 := r1.cell 1; have k1 := r1.frozen 1; have g2 := r1.cell 2; have k2 := r1.frozen 2; have g3 := r1.cell 3; have k3 := r1.frozen 3; have g4 := r1.cell 4; have k4 := r1.frozen 4; have g5 := r1.cell 5; have k5 := r1.frozen 5; have g6 := r1.cell 6; have k6 := r1.frozen 6; have g7 := r1.cell 7; have k7 := r1.frozen 7
        simp only [List.getElem?_cons_zero, List.getElem?_cons_succ] at g0 g1 g2 g3 g4 g5 g6 g7
        have r2 := hid (r1.set8 rfl (.int .u8 0) (.int .u8 0) (.int .u8 0) (.int .u8 0) (.int .u8 0) (.int .u8 0) (.int .u8 0) (.int .u8 0))
        have b2 := hid (below_set8 (g := R) b9 HRB.out (.int .u8 0) (.int .u8 0) (.int .u8 0) (.int .u8 0) (.int .u8 0) (.int .u8 0) (.int .u8 0) (.int .u8 0))
        clear r1
        go_wp2_with fail
        clear g0 g1 g2 g3 g4 g5 g6 g7 k0 k1 k2 k3 k4 k5 k6 k7
        obtain ⟨W, hW⟩ : ∃ W, W = ((((((((v9.setCell ⟨R, 0, none⟩ (.int .u8 0)).setCell ⟨R, 1, none⟩ (.int .u8 0)).setCell ⟨R, 2, none⟩ (.int .u8 0)).setCell ⟨R, 3, none⟩ (.int .u8 0)).setCell ⟨R, 4, none⟩ (.int .u8 0)).setCell ⟨R, 5, none⟩ (.int .u8 0)).setCell ⟨R, 6, none⟩ (.int .u8 0)).setCell ⟨R, 7, none⟩ (.int .u8 0)) := ⟨_, rfl⟩
        rw [← hW] at r2 b2 ⊢
        clear hW
        have r2 := r2.out
        have g0 := r2.cell 0; have g1 := r2.cell 1; have g2 := r2.cell 2; have g3 := r2.cell 3; have g4 := r2.cell 4; have g5 := r2.cell 5; have g6 := r2.cell 6; have g7 := r2.cell 7
        simp only [List.getElem?_cons_zero, List.getElem?_cons_succ] at g0 g1 g2 g3 g4 g5 g6 g7
        exact bodyPost_ret (v := .tuple #[.agg #[.int .u8 0, .int .u8 0, .int .u8 0, .int .u8 0, .int .u8 0, .int .u8 0, .int .u8 0, .int .u8 0], .int .i64 5]) (by simp [results, Tryz.results13, go_sem, g0, g1, g2, g3, g4, g5, g6, g7]) rfl ⟨[0, 0, 0, 0, 0, 0, 0, 0], 5, rfl, by rw [HRR.out]; exact b2.out, .inr ⟨HO.out, .inr ⟨HNX2.out, rfl, rfl⟩⟩⟩
      | true =>
        clear c0 c1 c2 c3 c4 c5 c6 c7
        have HDT := hid (fun W (h : Below v4.heap.size v4 W) => implDT_any b n cap zs e0 e1 e2 e3 e4 e5 e6 e7 W (HS4.out.below h (by omega)) HN.out HOC.out)
        have c0 := HD4.out.cell 0; have c1 := HD4.out.cell 1; have c2 := HD4.out.cell 2; have c3 := HD4.out.cell 3; have c4 := HD4.out.cell 4; have c5 := HD4.out.cell 5; have c6 := HD4.out.cell 6; have c7 := HD4.out.cell 7
        simp only [List.getElem?_cons_zero, List.getElem?_cons_succ] at c0 c1 c2 c3 c4 c5 c6 c7
        by_cases htx : txD zs [e0, e1, e2, e3, e4, e5, e6, e7] = t.data.toList
        · have HDD := hid (HYES.out hr htx)
          have heq : ((⟨(txD zs [e0, e1, e2, e3, e4, e5, e6, e7]).toArray⟩ : ByteArray).toList == t.toList) = true := by rw [Lib.toList_data, Lib.toList_data, htx]; simp
          have heq2 : ((⟨(txD zs [e0, e1, e2, e3, e4, e5, e6, e7]).toArray⟩ : ByteArray).toList != t.toList) = false := by rw [bne, heq]; rfl
          obtain ⟨T, hT⟩ : ∃ T, (⟨(txD zs [e0, e1, e2, e3, e4, e5, e6, e7]).toArray⟩ : ByteArray) = T := ⟨_, rfl⟩
          rw [hT] at heq heq2 HDT
          clear htx hT hr
          go_wp2_with fail
          refine HVD.out.mono ?_
          rintro e v5 ⟨rfl, hB5⟩
          have rD5 := HD4.out.below hB5 HD4.out.lt
          clear c0 c1 c2 c3 c4 c5 c6 c7
          have c0 := rD5.cell 0; have c1 := rD5.cell 1; have c2 := rD5.cell 2; have c3 := rD5.cell 3; have c4 := rD5.cell 4; have c5 := rD5.cell 5; have c6 := rD5.cell 6; have c7 := rD5.cell 7
          simp only [List.getElem?_cons_zero, List.getElem?_cons_succ] at c0 c1 c2 c3 c4 c5 c6 c7
          have HB5 := hid hB5
          clear hB5
          go_wp2_with fail
          refine (HDT.out _ HB5.out).mono ?_
          rintro e v9 ⟨rfl, hB⟩
          have b9 := HB4.out.trans ((HB5.out.trans (hB.mono HB5.out.size)).mono hz4)
          have r1 := (HR4.out.below HB5.out HR4.out.lt).below hB (Nat.lt_of_lt_of_le (HR4.out.lt) HB5.out.size)
          have rD9 := rD5.below hB rD5.lt
          clear c0 c1 c2 c3 c4 c5 c6 c7 hB rD5
          have c0 := rD9.cell 0; have c1 := rD9.cell 1; have c2 := rD9.cell 2; have c3 := rD9.cell 3; have c4 := rD9.cell 4; have c5 := rD9.cell 5; have c6 := rD9.cell 6; have c7 := rD9.cell 7
          simp only [List.getElem?_cons_zero, List.getElem?_cons_succ] at c0 c1 c2 c3 c4 c5 c6 c7
          clear rD9
          have g0 := r1.cell 0; have k0 := r1.frozen 0; have g1 := r1.cell 1; have k1 := r1.frozen 1; have g2 := r1.cell 2; have k2 := r1.frozen 2; have g3 := r1.cell 3; have k3 := r1.frozen 3; have g4 := r1.cell 4; have k4 := r1.frozen 4; have g5 := r1.cell 5; have k5 := r1.frozen 5; have g6 := r1.cell 6; have k6 := r1.frozen 6; have g7 := r1.cell 7; have k7 := r1.frozen 7
          simp only [List.getElem?_cons_zero, List.getElem?_cons_succ] at g0 g1 g2 g3 g4 g5 g6 g7
          have r2 := hid (r1.set8 rfl (.int .u8 e0) (.int .u8 e1) (.int .u8 e2) (.int .u8 e3) (.int .u8 e4) (.int .u8 e5) (.int .u8 e6) (.int .u8 e7))
          have b2 := hid (below_set8 (g := R) b9 HRB.out (.int .u8 e0) (.int .u8 e1) (.int .u8 e2) (.int .u8 e3) (.int .u8 e4) (.int .u8 e5) (.int .u8 e6) (.int .u8 e7))
          clear r1
          go_wp2_with fail
          clear g0 g1 g2 g3 g4 g5 g6 g7 k0 k1 k2 k3 k4 k5 k6 k7 c0 c1 c2 c3 c4 c5 c6 c7
          obtain ⟨W, hW⟩ : ∃ W, W = ((((((((v9.setCell ⟨R, 0, none⟩ (.int .u8 e0)).setCell ⟨R, 1, none⟩ (.int .u8 e1)).setCell ⟨R, 2, none⟩ (.int .u8 e2)).setCell ⟨R, 3, none⟩ (.int .u8 e3)).setCell ⟨R, 4, none⟩ (.int .u8 e4)).setCell ⟨R, 5, none⟩ (.int .u8 e5)).setCell ⟨R, 6, none⟩ (.int .u8 e6)).setCell ⟨R, 7, none⟩ (.int .u8 e7)) := ⟨_, rfl⟩
          rw [← hW] at r2 b2 ⊢
          clear hW
          have r2 := r2.out
          have g0 := r2.cell 0; have g1 := r2.cell 1; have g2 := r2.cell 2; have g3 := r2.cell 3; have g4 := r2.cell 4; have g5 := r2.cell 5; have g6 := r2.cell 6; have g7 := r2.cell 7
          simp only [List.getElem?_cons_zero, List.getElem?_cons_succ] at g0 g1 g2 g3 g4 g5 g6 g7
          exact bodyPost_ret (v := .tuple #[.agg #[.int .u8 e0, .int .u8 e1, .int .u8 e2, .int .u8 e3, .int .u8 e4, .int .u8 e5, .int .u8 e6, .int .u8 e7], .int .i64 0]) (by simp [results, Tryz.results13, go_sem, g0, g1, g2, g3, g4, g5, g6, g7]) rfl ⟨[e0, e1, e2, e3, e4, e5, e6, e7], 0, rfl, by rw [HRR.out]; exact b2.out, .inr ⟨HO.out, .inl ⟨HDD.out, rfl⟩⟩⟩
        · have HNX2 := hid (HNX.out (fun h => htx h.2))
          have heq : ((⟨(txD zs [e0, e1, e2, e3, e4, e5, e6, e7]).toArray⟩ : ByteArray).toList == t.toList) = false := by rw [Lib.toList_data, Lib.toList_data]; simpa using htx
          have heq2 : ((⟨(txD zs [e0, e1, e2, e3, e4, e5, e6, e7]).toArray⟩ : ByteArray).toList != t.toList) = true := by rw [bne, heq]; rfl
          have heq3 : ¬ (⟨(txD zs [e0, e1, e2, e3, e4, e5, e6, e7]).toArray⟩ : ByteArray).toList = t.toList := by simpa using heq
          obtain ⟨T, hT⟩ : ∃ T, (⟨(txD zs [e0, e1, e2, e3, e4, e5, e6, e7]).toArray⟩ : ByteArray) = T := ⟨_, rfl⟩
          rw [hT] at heq heq2 heq3 HDT
          clear htx hT hr
          go_wp2_with fail
          refine HVD.out.mono ?_
          rintro e v5 ⟨rfl, hB5⟩
          have rD5 := HD4.out.below hB5 HD4.out.lt
          clear c0 c1 c2 c3 c4 c5 c6 c7
          have c0 := rD5.cell 0; have c1 := rD5.cell 1; have c2 := rD5.cell 2; have c3 := rD5.cell 3; have c4 := rD5.cell 4; have c5 := rD5.cell 5; have c6 := rD5.cell 6; have c7 := rD5.cell 7
          simp only [List.getElem?_cons_zero, List.getElem?_cons_succ] at c0 c1 c2 c3 c4 c5 c6 c7
          have HB5 := hid hB5
          clear hB5
          go_wp2_with fail
          refine (HDT.out _ HB5.out).mono ?_
          rintro e v9 ⟨rfl, hB⟩
          have b9 := HB4.out.trans ((HB5.out.trans (hB.mono HB5.out.size)).mono hz4)
          have r1 := (HR4.out.below HB5.out HR4.out.lt).below hB (Nat.lt_of_lt_of_le (HR4.out.lt) HB5.out.size)
          clear c0 c1 c2 c3 c4 c5 c6 c7 hB rD5
          have g0 := r1.cell 0; have k0 := r1.frozen 0; have g1 := r1.cell 1; have k1 := r1.frozen 1; have g2 := r1.cell 2; have k2 := r1.frozen 2; have g3 := r1.cell 3; have k3 := r1.frozen 3; have g4 := r1.cell 4; have k4 := r1.frozen 4; have g5 := r1.cell 5; have k5 := r1.frozen 5; have g6 := r1.cell 6; have k6 := r1.frozen 6; have g7 := r1.cell 7; have k7 := r1.frozen 7
          simp only [List.getElem?_cons_zero, List.getElem?_cons_succ] at g0 g1 g2 g3 g4 g5 g6 g7
          have r2 := hid (r1.set8 rfl (.int .u8 0) (.int .u8 0) (.int .u8 0) (.int .u8 0) (.int .u8 0) (.int .u8 0) (.int .u8 0) (.int .u8 0))
          have b2 := hid (below_set8 (g := R) b9 HRB.out (.int .u8 0) (.int .u8 0) (.int .u8 0) (.int .u8 0) (.int .u8 0) (.int .u8 0) (.int .u8 0) (.int .u8 0))
          clear r1
          go_wp2_with fail
          clear g0 g1 g2 g3 g4 g5 g6 g7 k0 k1 k2 k3 k4 k5 k6 k7
          obtain ⟨W, hW⟩ : ∃ W, W = ((((((((v9.setCell ⟨R, 0, none⟩ (.int .u8 0)).setCell ⟨R, 1, none⟩ (.int .u8 0)).setCell ⟨R, 2, none⟩ (.int .u8 0)).setCell ⟨R, 3, none⟩ (.int .u8 0)).setCell ⟨R, 4, none⟩ (.int .u8 0)).setCell ⟨R, 5, none⟩ (.int .u8 0)).setCell ⟨R, 6, none⟩ (.int .u8 0)).setCell ⟨R, 7, none⟩ (.int .u8 0)) := ⟨_, rfl⟩
          rw [← hW] at r2 b2 ⊢
          clear hW
          have r2 := r2.out
          have g0 := r2.cell 0; have g1 := r2.cell 1; have g2 := r2.cell 2; have g3 := r2.cell 3; have g4 := r2.cell 4; have g5 := r2.cell 5; have g6 := r2.cell 6; have g7 := r2.cell 7
          simp only [List.getElem?_cons_zero, List.getElem?_cons_succ] at g0 g1 g2 g3 g4 g5 g6 g7
          exact bodyPost_ret (v := .tuple #[.agg #[.int .u8 0, .int .u8 0, .int .u8 0, .int .u8 0, .int .u8 0, .int .u8 0, .int .u8 0, .int .u8 0], .int .i64 5]) (by simp [results, Tryz.results13, go_sem, g0, g1, g2, g3, g4, g5, g6, g7]) rfl ⟨[0, 0, 0, 0, 0, 0, 0, 0], 5, rfl, by rw [HRR.out]; exact b2.out, .inr ⟨HO.out, .inr ⟨HNX2.out, rfl, rfl⟩⟩⟩
    | false =>
      have HRF := hid (fun W (h : Below R w W) => (HRL.out W h).mono (fun e w' hh => show e = .returned (.slice none 0 0) ∧ Below W.heap.size W w' from by
        obtain ⟨v, he, hB, ⟨hf, _⟩ | ⟨_, hv⟩⟩ := hh
        · cases hf
        · subst hv; exact ⟨he, hB⟩))
      clear HRL
      go_enter Tryz.func13, Tryz.ntmps13
      go_wp2_with fail
      refine HVW.out.mono ?_
      rintro e v2 ⟨rfl, hw⟩
      subst hw
      go_wp2_with fail
      go_region_held3 (fun _ => True) (trivial)
        ((first | (go_at_call 38; refine (HRF.out _ HB1.out.drew).mono ?_; rintro e v4 ⟨rfl, hB3⟩; simp only [World.size_drew, World.size_alloc] at hB3) | (rw [if_pos (by kernel_rfl)]; refine oper_copy_none _ _ _ _ _ rfl 5 Tryz.underlying22 rfl (some ⟨R + 1, 0, none⟩) none 8 8 0 0 rfl rfl rfl ?_)))
      have b4 := (HB1.out.drew).trans (show Below R _ v4 from hB3.mono (by have := HRR.out; omega))
      have rR4 := (show Row _ R 30 [.int .u8 0, .int .u8 0, .int .u8 0, .int .u8 0, .int .u8 0, .int .u8 0, .int .u8 0, .int .u8 0] from HRR1.out.below ((Below.refl _ _).drew.trans (show Below _ _ v4 from hB3)) (by have := HRR.out; omega))
      have rD4 := (HRDd.out.below hB3 (by have := HRR.out; omega))
      have HNX := hid (show ¬ (okV zs [0, 0, 0, 0, 0, 0, 0, 0] = true ∧ txD zs [0, 0, 0, 0, 0, 0, 0, 0] = t.data.toList) → ¬ ∃ es, Dg zs t.data.toList es from fun h ⟨es, he⟩ => by
        have := (HDG.out es he).1
        cases this)
      have HYES := hid (fun (h1 : okV zs [0, 0, 0, 0, 0, 0, 0, 0] = true) (h2 : txD zs [0, 0, 0, 0, 0, 0, 0, 0] = t.data.toList) => show Dg zs t.data.toList [0, 0, 0, 0, 0, 0, 0, 0] from by
        rw [← h2]
        refine Dg.of rfl (fun j hj => ?_) h1
        match j, hj with
        | 0, _ | 1, _ | 2, _ | 3, _ | 4, _ | 5, _ | 6, _ | 7, _ => decide)
      have HOC := hid (show Oct 0 0 0 0 0 0 0 0 by unfold Oct; omega)
      clear hB3 HRF
      have S4 := HS.out.below b4 hbR
      have HVD := hid (validDigits_any b n cap zs 0 0 0 0 0 0 0 0 v4 S4 HN.out HOC.out)
      obtain ⟨r, hr⟩ : ∃ r, okV zs [0, 0, 0, 0, 0, 0, 0, 0] = r := ⟨_, rfl⟩
      rw [hr] at HVD
      have c0 := rD4.cell 0; have c1 := rD4.cell 1; have c2 := rD4.cell 2; have c3 := rD4.cell 3; have c4 := rD4.cell 4; have c5 := rD4.cell 5; have c6 := rD4.cell 6; have c7 := rD4.cell 7
      simp only [List.getElem?_cons_zero, List.getElem?_cons_succ] at c0 c1 c2 c3 c4 c5 c6 c7
      have HD4 := hid rD4; have HR4 := hid rR4; have HB4 := hid b4; have HS4 := hid S4
      have hz4 : R ≤ v4.heap.size := by have h := b4.size; have h2 := HRR.out; omega
      clear rD4 rR4 b4 S4
      cases r with
      | false =>
        have HNX2 := hid (HNX.out (fun h => by rw [hr] at h; cases h.1))
        clear hr
        go_wp2_with fail
        refine HVD.out.mono ?_
        rintro e v9 ⟨rfl, hB⟩
        have r1 := HR4.out.below hB HR4.out.lt
        have b9 := HB4.out.trans (hB.mono hz4)
        clear hB c0 c1 c2 c3 c4 c5 c6 c7
        have g0 := r1.cell 0; have k0 := r1.frozen 0; have g1 := r1.cell 1; have k1 := r1.frozen 1; have g2 := r1.cell 2; have k2 := r1.frozen 2; have g3 := r1.cell 3; have k3 := r1.frozen 3; have g4 := r1.cell 4; have k4 := r1.frozen 4; have g5 := r1.cell 5; have k5 := r1.frozen 5; have g6 := r1.cell 6; have k6 := r1.frozen 6; have g7 := r1.cell 7; have k7 := r1.frozen 7
        simp only [List.getElem?_cons_zero, List.getElem?_cons_succ] at g0 g1 g2 g3 g4 g5 g6 g7
        have r2 := hid (r1.set8 rfl (.int .u8 0) (.int .u8 0) (.int .u8 0) (.int .u8 0) (.int .u8 0) (.int .u8 0) (.int .u8 0) (.int .u8 0))
        have b2 := hid (below_set8 (g := R) b9 HRB.out (.int .u8 0) (.int .u8 0) (.int .u8 0) (.int .u8 0) (.int .u8 0) (.int .u8 0) (.int .u8 0) (.int .u8 0))
        clear r1
        go_wp2_with fail
        clear g0 g1 g2 g3 g4 g5 g6 g7 k0 k1 k2 k3 k4 k5 k6 k7
        obtain ⟨W, hW⟩ : ∃ W, W = ((((((((v9.setCell ⟨R, 0, none⟩ (.int .u8 0)).setCell ⟨R, 1, none⟩ (.int .u8 0)).setCell ⟨R, 2, none⟩ (.int .u8 0)).setCell ⟨R, 3, none⟩ (.int .u8 0)).setCell ⟨R, 4, none⟩ (.int .u8 0)).setCell ⟨R, 5, none⟩ (.int .u8 0)).setCell ⟨R, 6, none⟩ (.int .u8 0)).setCell ⟨R, 7, none⟩ (.int .u8 0)) := ⟨_, rfl⟩
        rw [← hW] at r2 b2 ⊢
        clear hW
        have r2 := r2.out
        have g0 := r2.cell 0; have g1 := r2.cell 1; have g2 := r2.cell 2; have g3 := r2.cell 3; have g4 := r2.cell 4; have g5 := r2.cell 5; have g6 := r2.cell 6; have g7 := r2.cell 7
        simp only [List.getElem?_cons_zero, List.getElem?_cons_succ] at g0 g1 g2 g3 g4 g5 g6 g7
        exact bodyPost_ret (v := .tuple #[.agg #[.int .u8 0, .int .u8 0, .int .u8 0, .int .u8 0, .int .u8 0, .int .u8 0, .int .u8 0, .int .u8 0], .int .i64 5]) (by simp [results, Tryz.results13, go_sem, g0, g1, g2, g3, g4, g5, g6, g7]) rfl ⟨[0, 0, 0, 0, 0, 0, 0, 0], 5, rfl, by rw [HRR.out]; exact b2.out, .inr ⟨HO.out, .inr ⟨HNX2.out, rfl, rfl⟩⟩⟩
      | true =>
        clear c0 c1 c2 c3 c4 c5 c6 c7
        have HDT := hid (fun W (h : Below v4.heap.size v4 W) => implDT_any b n cap zs 0 0 0 0 0 0 0 0 W (HS4.out.below h (by omega)) HN.out HOC.out)
        have c0 := HD4.out.cell 0; have c1 := HD4.out.cell 1; have c2 := HD4.out.cell 2; have c3 := HD4.out.cell 3; have c4 := HD4.out.cell 4; have c5 := HD4.out.cell 5; have c6 := HD4.out.cell 6; have c7 := HD4.out.cell 7
        simp only [List.getElem?_cons_zero, List.getElem?_cons_succ] at c0 c1 c2 c3 c4 c5 c6 c7
        by_cases htx : txD zs [0, 0, 0, 0, 0, 0, 0, 0] = t.data.toList
        · have HDD := hid (HYES.out hr htx)
          have heq : ((⟨(txD zs [0, 0, 0, 0, 0, 0, 0, 0]).toArray⟩ : ByteArray).toList == t.toList) = true := by rw [Lib.toList_data, Lib.toList_data, htx]; simp
          have heq2 : ((⟨(txD zs [0, 0, 0, 0, 0, 0, 0, 0]).toArray⟩ : ByteArray).toList != t.toList) = false := by rw [bne, heq]; rfl
          obtain ⟨T, hT⟩ : ∃ T, (⟨(txD zs [0, 0, 0, 0, 0, 0, 0, 0]).toArray⟩ : ByteArray) = T := ⟨_, rfl⟩
          rw [hT] at heq heq2 HDT
          clear htx hT hr
          go_wp2_with fail
          refine HVD.out.mono ?_
          rintro e v5 ⟨rfl, hB5⟩
          have rD5 := HD4.out.below hB5 HD4.out.lt
          clear c0 c1 c2 c3 c4 c5 c6 c7
          have c0 := rD5.cell 0; have c1 := rD5.cell 1; have c2 := rD5.cell 2; have c3 := rD5.cell 3; have c4 := rD5.cell 4; have c5 := rD5.cell 5; have c6 := rD5.cell 6; have c7 := rD5.cell 7
          simp only [List.getElem?_cons_zero, List.getElem?_cons_succ] at c0 c1 c2 c3 c4 c5 c6 c7
          have HB5 := hid hB5
          clear hB5
          go_wp2_with fail
          refine (HDT.out _ HB5.out).mono ?_
          rintro e v9 ⟨rfl, hB⟩
          have b9 := HB4.out.trans ((HB5.out.trans (hB.mono HB5.out.size)).mono hz4)
          have r1 := (HR4.out.below HB5.out HR4.out.lt).below hB (Nat.lt_of_lt_of_le (HR4.out.lt) HB5.out.size)
          have rD9 := rD5.below hB rD5.lt
          clear c0 c1 c2 c3 c4 c5 c6 c7 hB rD5
          have c0 := rD9.cell 0; have c1 := rD9.cell 1; have c2 := rD9.cell 2; have c3 := rD9.cell 3; have c4 := rD9.cell 4; have c5 := rD9.cell 5; have c6 := rD9.cell 6; have c7 := rD9.cell 7
          simp only [List.getElem?_cons_zero, List.getElem?_cons_succ] at c0 c1 c2 c3 c4 c5 c6 c7
          clear rD9
          have g0 := r1.cell 0; have k0 := r1.frozen 0; have g1 := r1.cell 1; have k1 := r1.frozen 1; have g2 := r1.cell 2; have k2 := r1.frozen 2; have g3 := r1.cell 3; have k3 := r1.frozen 3; have g4 := r1.cell 4; have k4 := r1.frozen 4; have g5 := r1.cell 5; have k5 := r1.frozen 5; have g6 := r1.cell 6; have k6 := r1.frozen 6; have g7 := r1.cell 7; have k7 := r1.frozen 7
          simp only [List.getElem?_cons_zero, List.getElem?_cons_succ] at g0 g1 g2 g3 g4 g5 g6 g7
          have r2 := hid (r1.set8 rfl (.int .u8 0) (.int .u8 0) (.int .u8 0) (.int .u8 0) (.int .u8 0) (.int .u8 0) (.int .u8 0) (.int .u8 0))
          have b2 := hid (below_set8 (g := R) b9 HRB.out (.int .u8 0) (.int .u8 0) (.int .u8 0) (.int .u8 0) (.int .u8 0) (.int .u8 0) (.int .u8 0) (.int .u8 0))
          clear r1
          go_wp2_with fail
          clear g0 g1 g2 g3 g4 g5 g6 g7 k0 k1 k2 k3 k4 k5 k6 k7 c0 c1 c2 c3 c4 c5 c6 c7
          obtain ⟨W, hW⟩ : ∃ W, W = ((((((((v9.setCell ⟨R, 0, none⟩ (.int .u8 0)).setCell ⟨R, 1, none⟩ (.int .u8 0)).setCell ⟨R, 2, none⟩ (.int .u8 0)).setCell ⟨R, 3, none⟩ (.int .u8 0)).setCell ⟨R, 4, none⟩ (.int .u8 0)).setCell ⟨R, 5, none⟩ (.int .u8 0)).setCell ⟨R, 6, none⟩ (.int .u8 0)).setCell ⟨R, 7, none⟩ (.int .u8 0)) := ⟨_, rfl⟩
          rw [← hW] at r2 b2 ⊢
          clear hW
          have r2 := r2.out
          have g0 := r2.cell 0; have g1 := r2.cell 1; have g2 := r2.cell 2; have g3 := r2.cell 3; have g4 := r2.cell 4; have g5 := r2.cell 5; have g6 := r2.cell 6; have g7 := r2.cell 7
          simp only [List.getElem?_cons_zero, List.getElem?_cons_succ] at g0 g1 g2 g3 g4 g5 g6 g7
          exact bodyPost_ret (v := .tuple #[.agg #[.int .u8 0, .int .u8 0, .int .u8 0, .int .u8 0, .int .u8 0, .int .u8 0, .int .u8 0, .int .u8 0], .int .i64 0]) (by simp [results, Tryz.results13, go_sem, g0, g1, g2, g3, g4, g5, g6, g7]) rfl ⟨[0, 0, 0, 0, 0, 0, 0, 0], 0, rfl, by rw [HRR.out]; exact b2.out, .inr ⟨HO.out, .inl ⟨HDD.out, rfl⟩⟩⟩
        · have HNX2 := hid (HNX.out (fun h => htx h.2))
          have heq : ((⟨(txD zs [0, 0, 0, 0, 0, 0, 0, 0]).toArray⟩ : ByteArray).toList == t.toList) = false := by rw [Lib.toList_data, Lib.toList_data]; simpa using htx
          have heq2 : ((⟨(txD zs [0, 0, 0, 0, 0, 0, 0, 0]).toArray⟩ : ByteArray).toList != t.toList) = true := by rw [bne, heq]; rfl
          have heq3 : ¬ (⟨(txD zs [0, 0, 0, 0, 0, 0, 0, 0]).toArray⟩ : ByteArray).toList = t.toList := by simpa using heq
          obtain ⟨T, hT⟩ : ∃ T, (⟨(txD zs [0, 0, 0, 0, 0, 0, 0, 0]).toArray⟩ : ByteArray) = T := ⟨_, rfl⟩
          rw [hT] at heq heq2 heq3 HDT
          clear htx hT hr
          go_wp2_with fail
          refine HVD.out.mono ?_
          rintro e v5 ⟨rfl, hB5⟩
          have rD5 := HD4.out.below hB5 HD4.out.lt
          clear c0 c1 c2 c3 c4 c5 c6 c7
          have c0 := rD5.cell 0; have c1 := rD5.cell 1; have c2 := rD5.cell 2; have c3 := rD5.cell 3; have c4 := rD5.cell 4; have c5 := rD5.cell 5; have c6 := rD5.cell 6; have c7 := rD5.cell 7
          simp only [List.getElem?_cons_zero, List.getElem?_cons_succ] at c0 c1 c2 c3 c4 c5 c6 c7
          have HB5 := hid hB5
          clear hB5
          go_wp2_with fail
          refine (HDT.out _ HB5.out).mono ?_
          rintro e v9 ⟨rfl, hB⟩
          have b9 := HB4.out.trans ((HB5.out.trans (hB.mono HB5.out.size)).mono hz4)
          have r1 := (HR4.out.below HB5.out HR4.out.lt).below hB (Nat.lt_of_lt_of_le (HR4.out.lt) HB5.out.size)
          clear c0 c1 c2 c3 c4 c5 c6 c7 hB rD5
          have g0 := r1.cell 0; have k0 := r1.frozen 0; have g1 := r1.cell 1; have k1 := r1.frozen 1; have g2 := r1.cell 2; have k2 := r1.frozen 2; have g3 := r1.cell 3; have k3 := r1.frozen 3; have g4 := r1.cell 4; have k4 := r1.frozen 4; have g5 := r1.cell 5; have k5 := r1.frozen 5; have g6 := r1.cell 6; have k6 := r1.frozen 6; have g7 := r1.cell 7; have k7 := r1.frozen 7
          simp only [List.getElem?_cons_zero, List.getElem?_cons_succ] at g0 g1 g2 g3 g4 g5 g6 g7
          have r2 := hid (r1.set8 rfl (.int .u8 0) (.int .u8 0) (.int .u8 0) (.int .u8 0) (.int .u8 0) (.int .u8 0) (.int .u8 0) (.int .u8 0))
          have b2 := hid (below_set8 (g := R) b9 HRB.out (.int .u8 0) (.int .u8 0) (.int .u8 0) (.int .u8 0) (.int .u8 0) (.int .u8 0) (.int .u8 0) (.int .u8 0))
          clear r1
          go_wp2_with fail
          clear g0 g1 g2 g3 g4 g5 g6 g7 k0 k1 k2 k3 k4 k5 k6 k7
          obtain ⟨W, hW⟩ : ∃ W, W = ((((((((v9.setCell ⟨R, 0, none⟩ (.int .u8 0)).setCell ⟨R, 1, none⟩ (.int .u8 0)).setCell ⟨R, 2, none⟩ (.int .u8 0)).setCell ⟨R, 3, none⟩ (.int .u8 0)).setCell ⟨R, 4, none⟩ (.int .u8 0)).setCell ⟨R, 5, none⟩ (.int .u8 0)).setCell ⟨R, 6, none⟩ (.int .u8 0)).setCell ⟨R, 7, none⟩ (.int .u8 0)) := ⟨_, rfl⟩
          rw [← hW] at r2 b2 ⊢
          clear hW
          have r2 := r2.out
          have g0 := r2.cell 0; have g1 := r2.cell 1; have g2 := r2.cell 2; have g3 := r2.cell 3; have g4 := r2.cell 4; have g5 := r2.cell 5; have g6 := r2.cell 6; have g7 := r2.cell 7
          simp only [List.getElem?_cons_zero, List.getElem?_cons_succ] at g0 g1 g2 g3 g4 g5 g6 g7
          exact bodyPost_ret (v := .tuple #[.agg #[.int .u8 0, .int .u8 0, .int .u8 0, .int .u8 0, .int .u8 0, .int .u8 0, .int .u8 0, .int .u8 0], .int .i64 5]) (by simp [results, Tryz.results13, go_sem, g0, g1, g2, g3, g4, g5, g6, g7]) rfl ⟨[0, 0, 0, 0, 0, 0, 0, 0], 5, rfl, by rw [HRR.out]; exact b2.out, .inr ⟨HO.out, .inr ⟨HNX2.out, rfl, rfl⟩⟩⟩
end Go.Proofs.YtfifnngdmhdkiaaGreatDoor
