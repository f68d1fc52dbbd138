/- Texts of this seat, merged: RdE ItvN ItvSN ValGN RgN PiQ LawsD Vals RgL Lrd Lrs RgS. -/
import Derived.Laws.CopyOwn
import Derived.Laws.IdiomCopy
import Derived.Deep.RegionHeld3
import Derived.RangeFuncNested
import Derived.RangeFuncBound
import Derived.RangeFuncCalls
import Derived.RangeFuncLeaves
import Derived.RangeFuncBox
import Derived.Shelf.Abstract
import Derived.Shelf.RegionOpen
import Derived.OwnWalkIn
import Derived.TacticsInMore
import Derived.LoopNIn
import Derived.LoopIn
import Derived.Stop.RegionWithIn
import Derived.BigRegionIn
import Derived.Sort.CutIn
import Derived.Lib.ParseIntBTie
import Derived.Test.YtcanfcpofihoeaaGreatDoorMgB

namespace Go.Proofs.YtcanfcpofihoeaaGreatDoor
open Go.RowKit
set_option linter.unusedVariables false
set_option linter.unusedSimpArgs false
theorem oper_copy_row {P : Program} (w : World) {o : Oper} {a : Act} {K : Act → World → Prop} {Q : Exit → Act → World → Prop}
    (d s : Operand) (dT sT : TypeId) (ho : o.op = .call { callee := .builtin .copy, args := #[d, s], argTypes := #[dT, sT] }) (elem : TypeId) (hu : P.underlying dT = some (.slice elem)) (hsz : (P.info? elem).map (·.size) = some 1)
    (g off dLen dCap sLen sCap : Nat) (ad : Addr) (hd : a.eval d = .slice (some ⟨g, off, none⟩) dLen dCap) (hs : a.eval s = .slice (some ad) sLen sCap) (t : TypeId)
    (cur : List Value) (hg : Row w g t cur) (cs : List Value) (hn : cs.length = Nat.min sLen dLen)
    (hsrc : ∀ j v, cs[j]? = some v → w.cell? (ad.add j) = some v) (hfit : off + cs.length ≤ cur.length) (h1 : ∀ v ∈ cs, v.oneCell' = true)
    (hK : ∀ w', Hid (Row w' g t (splice cur off cs)) → Hid (∀ B w0, Below B w0 w → B ≤ g → Below B w0 w') → w'.heap.size = w.heap.size → K (a.put o.dst (goInt cs.length)) w') : Oper.wp P o a w K Q := by
  have hg' : w.heap[g]? = some (.cells cur.toArray t (0, 0)) := hg
  have hrun := run_copy_row (P := P) w dT sT o.type elem g off dLen dCap ad sLen sCap cur.toArray t cs hu hsz hg' hn hsrc (by simpa using hfit) h1
  unfold Oper.wp
  simp [execOp, ho, resolve, invoke, builtin, hd, hs, hrun, Result.andThen]
  refine hK _ (hid ?_) (hid (fun B w0 hb hB => below_setRow hb hB _)) (by simp [World.setRow])
  have := setRow_heap w g cur.toArray (cur.toArray.toList.take off ++ (cs ++ cur.toArray.toList.drop (off + cs.length))).toArray t _ hg'
  simpa [splice, Row] using this

theorem len8 {xs : List Int} (h : xs.length = 8) : ∃ e0 e1 e2 e3 e4 e5 e6 e7, xs = [e0, e1, e2, e3, e4, e5, e6, e7] := by
  match xs, h with
  | [a, b, c, d, e, f, g, i], _ => exact ⟨a, b, c, d, e, f, g, i, rfl⟩
theorem oper_copy_none {P : Program} (w : World) {o : Oper} {a : Act} {K : Act → World → Prop} {Q : Exit → Act → World → Prop}
    (d s : Operand) (dT sT : TypeId) (ho : o.op = .call { callee := .builtin .copy, args := #[d, s], argTypes := #[dT, sT] }) (elem : TypeId) (hu : P.underlying dT = some (.slice elem)) (hsz : (P.info? elem).map (·.size) = some 1)
    (dp sp : Option Addr) (dLen dCap sLen sCap : Nat) (hd : a.eval d = .slice dp dLen dCap) (hs : a.eval s = .slice sp sLen sCap) (hn : Nat.min sLen dLen = 0)
    (hK : K (a.put o.dst (goInt 0)) w) : Oper.wp P o a w K Q := by
  have hrun := run_copy_none (P := P) w dT sT o.type elem dp sp dLen dCap sLen sCap hu hsz hn
  unfold Oper.wp
  simp [execOp, ho, resolve, invoke, builtin, hd, hs, hrun, Result.andThen]
  exact hK
theorem copy_src {w : World} {g k : Nat} {xs : List Int} (h : Stk w g xs) (hk : xs.length = k) : ∀ j u, ((xs.take 8).map (Value.int .u8))[j]? = some u → w.cell? ((⟨g, 0, none⟩ : Addr).add j) = some u := fun j u hj => by
  rw [show (⟨g, 0, none⟩ : Addr).add j = ⟨g, j, none⟩ from by unfold Addr.add; split <;> simp_all]
  have hjl : j < (xs.take 8).length := by
    have := List.getElem?_eq_some_iff.1 hj
    simpa using this.1
  have hj2 : j < xs.length := by simp at hjl; omega
  have := h.2.1 j hj2
  rw [this, ← hj, List.getElem?_map, List.getElem?_take, if_pos (by simp at hjl; omega), List.getElem?_eq_getElem hj2]
  rfl
theorem padD_nil : padD [] = [0, 0, 0, 0, 0, 0, 0, 0] := rfl
theorem padD_splice (xs : List Int) : splice ([0, 0, 0, 0, 0, 0, 0, 0] : List Int) 0 (xs.take 8) = padD xs := by
  unfold splice padD
  have e : (List.take 8 xs).length = min 8 xs.length := by simp
  rw [show ([0, 0, 0, 0, 0, 0, 0, 0] : List Int) = List.replicate 8 0 from rfl, List.take_zero, List.nil_append, Nat.zero_add, e, List.drop_replicate]
theorem splice_map {α β : Type} (f : α → β) (L : List α) (n : Nat) (cs : List α) : splice (L.map f) n (cs.map f) = (splice L n cs).map f := by
  unfold splice; simp
/-- what ReadDigits gives -/
def RdG (zs : List Int) (l : List UInt8) (w : World) (e : Ending) (w' : World) : Prop := ∃ (ds : List Int) (c : Int), e = .returned (.tuple #[.agg (ds.map (Value.int .u8)).toArray, .int .i64 c]) ∧ Below w.heap.size w w' ∧
  ((okL zs = false ∧ ds = [0, 0, 0, 0, 0, 0, 0, 0] ∧ c = 1) ∨ (okL zs = true ∧ ((Dg zs l ds ∧ c = 0) ∨ ((¬ ∃ es, Dg zs l es) ∧ ds = [0, 0, 0, 0, 0, 0, 0, 0] ∧ c = 5))))
set_option maxRecDepth 100000 in
set_option maxHeartbeats 4000000 in
theorem implReadDigits_any (b n cap : Nat) (zs : List Int) (hn : n = zs.length) (t : ByteArray) (ht : t.size ≤ 1048576) (w : World) (hS : Stk w b zs) {tS tR : TypeId} {pS pR : Value} {m : Int} (hL : LW w tS pS tR pR m) :
    Calls Tryz.prog 30 #[.slice (some ⟨b, 0, none⟩) n cap, .string t] w (RdG zs t.data.toList w) := by
  obtain ⟨R, hR⟩ : ∃ R, w.heap.size = R := ⟨_, rfl⟩
  have bR : Below R w (w.alloc (.cells #[.int .u8 0, .int .u8 0, .int .u8 0, .int .u8 0, .int .u8 0, .int .u8 0, .int .u8 0, .int .u8 0] 39)) := by rw [← hR]; exact (Below.refl _ _).alloc (Nat.le_refl _) _
  have rR := Row.new w 39 [.int .u8 0, .int .u8 0, .int .u8 0, .int .u8 0, .int .u8 0, .int .u8 0, .int .u8 0, .int .u8 0]
  rw [hR] at rR
  have HBR := hid bR; have HRR0 := hid rR; have HRR := hid hR; have HS := hid hS; have HL := hid hL; have HN := hid hn
  have HRB := hid (Nat.le_refl R)
  have HV := hid (fun W (h : Below R w W) => validStack_any b n cap zs W (hS.below h (by rw [← hR]; exact hS.1)) hn)
  have hbR : b < R := by rw [← hR]; exact hS.1
  clear hS hL hn bR rR
  by_cases hok : okL zs = false
  · rw [hok] at HV
    have HO := hid hok
    have b9 := HBR.out
    have r1 := HRR0.out
    have HVW := hid (HV.out _ b9)
    clear hok
    go_enter Tryz.func30, Tryz.ntmps30
    go_wp2_with fail
    refine HVW.out.mono ?_
    rintro e v9 ⟨rfl, hw⟩
    rw [hw] at r1 b9
    have g0 := r1.cell 0; have k0 := r1.frozen 0; have g1 := r1.cell 1; have k1 := r1.frozen 1; have g2 := r1.cell 2; have k2 := r1.frozen 2; have g3 := r1.cell 3; have k3 := r1.frozen 3; have g4 := r1.cell 4; have k4 := r1.frozen 4; have g5 := r1.cell 5; have k5 := r1.frozen 5; have g6 := r1.cell 6; have k6 := r1.frozen 6; have g7 := r1.cell 7; have k7 := r1.frozen 7
    simp only [List.getElem?_cons_zero, List.getElem?_cons_succ] at g0 g1 g2 g3 g4 g5 g6 g7
    have r2 := hid (r1.set8 rfl (.int .u8 0) (.int .u8 0) (.int .u8 0) (.int .u8 0) (.int .u8 0) (.int .u8 0) (.int .u8 0) (.int .u8 0))
    have b2 := hid (below_set8 (g := R) b9 HRB.out (.int .u8 0) (.int .u8 0) (.int .u8 0) (.int .u8 0) (.int .u8 0) (.int .u8 0) (.int .u8 0) (.int .u8 0))
    clear r1
    go_wp2_with fail
    clear g0 g1 g2 g3 g4 g5 g6 g7 k0 k1 k2 k3 k4 k5 k6 k7
    obtain ⟨W, hW⟩ : ∃ W, W = ((((((((v9.setCell ⟨R, 0, none⟩ (.int .u8 0)).setCell ⟨R, 1, none⟩ (.int .u8 0)).setCell ⟨R, 2, none⟩ (.int .u8 0)).setCell ⟨R, 3, none⟩ (.int .u8 0)).setCell ⟨R, 4, none⟩ (.int .u8 0)).setCell ⟨R, 5, none⟩ (.int .u8 0)).setCell ⟨R, 6, none⟩ (.int .u8 0)).setCell ⟨R, 7, none⟩ (.int .u8 0)) := ⟨_, rfl⟩
    rw [← hW] at r2 b2 ⊢
    clear hW
    have r2 := r2.out
    have g0 := r2.cell 0; have g1 := r2.cell 1; have g2 := r2.cell 2; have g3 := r2.cell 3; have g4 := r2.cell 4; have g5 := r2.cell 5; have g6 := r2.cell 6; have g7 := r2.cell 7
    simp only [List.getElem?_cons_zero, List.getElem?_cons_succ] at g0 g1 g2 g3 g4 g5 g6 g7
    exact bodyPost_ret (v := .tuple #[.agg #[.int .u8 0, .int .u8 0, .int .u8 0, .int .u8 0, .int .u8 0, .int .u8 0, .int .u8 0, .int .u8 0], .int .i64 1]) (by simp [results, Tryz.results30, go_sem, g0, g1, g2, g3, g4, g5, g6, g7]) rfl ⟨[0, 0, 0, 0, 0, 0, 0, 0], 1, rfl, by rw [HRR.out]; exact b2.out, .inl ⟨HO.out, rfl, rfl⟩⟩
  · have hok : okL zs = true := by simpa using hok
    rw [hok] at HV
    have HO := hid hok
    have b1 : Below R w ((w.alloc (.cells #[.int .u8 0, .int .u8 0, .int .u8 0, .int .u8 0, .int .u8 0, .int .u8 0, .int .u8 0, .int .u8 0] 39)).alloc (.cells #[.int .u8 0, .int .u8 0, .int .u8 0, .int .u8 0, .int .u8 0, .int .u8 0, .int .u8 0, .int .u8 0] 39)) := HBR.out.alloc (by simp; omega) _
    have rD := Row.new (w.alloc (.cells #[.int .u8 0, .int .u8 0, .int .u8 0, .int .u8 0, .int .u8 0, .int .u8 0, .int .u8 0, .int .u8 0] 39)) 39 [.int .u8 0, .int .u8 0, .int .u8 0, .int .u8 0, .int .u8 0, .int .u8 0, .int .u8 0, .int .u8 0]
    have rR1 := HRR0.out.alloc (.cells #[.int .u8 0, .int .u8 0, .int .u8 0, .int .u8 0, .int .u8 0, .int .u8 0, .int .u8 0, .int .u8 0] 39)
    simp only [World.size_alloc] at rD
    rw [HRR.out] at rD
    have HB1 := hid b1; have HRD := hid rD; have HRDd := hid (show Row ((w.alloc (.cells #[.int .u8 0, .int .u8 0, .int .u8 0, .int .u8 0, .int .u8 0, .int .u8 0, .int .u8 0, .int .u8 0] 39)).alloc (.cells #[.int .u8 0, .int .u8 0, .int .u8 0, .int .u8 0, .int .u8 0, .int .u8 0, .int .u8 0, .int .u8 0] 39)).drew (R + 1) 39 [.int .u8 0, .int .u8 0, .int .u8 0, .int .u8 0, .int .u8 0, .int .u8 0, .int .u8 0, .int .u8 0] from rD); have HRR1 := hid rR1
    have HVW := hid (HV.out _ HBR.out)
    have h9 : (w9 t).length ≤ 9 := by have := Lib.splitB_length_le ⟨#[58]⟩ 0 (min 9 (t.size + 1) - 1) t; unfold w9; omega
    have h1 : 1 ≤ (w9 t).length := by
      unfold w9
      cases hk : min 9 (t.size + 1) - 1 with
      | zero => simp [Lib.splitB]
      | succ k => unfold Lib.splitB; split <;> simp
    have hbd : ∀ z ∈ (w9 t).reverse.map pwI, 0 ≤ z ∧ z ≤ 255 := fun z hz => by
      simp only [List.mem_map] at hz
      obtain ⟨p, _, rfl⟩ := hz
      exact pwI_bd p
    have hlen : ((w9 t).reverse.map pwI).length = (w9 t).length := by simp
    have HDG := hid (fun ds (h : Dg zs t.data.toList ds) => w9_dg hok h)
    have HRL := hid (fun W (h : Below R w W) => implRlf_any t ht W (HL.out.below h (by omega)).1)
    unfold RlG at HRL
    obtain ⟨xs, hxs⟩ : ∃ xs, (w9 t).reverse.map pwI = xs := ⟨_, rfl⟩
    obtain ⟨al, hal⟩ : ∃ al, ((w9 t).all fun p => (pw p).isSome) = al := ⟨_, rfl⟩
    rw [hxs, hal] at HRL HDG
    rw [hxs] at hbd hlen
    obtain ⟨k, hk⟩ : ∃ n, (w9 t).length = n := ⟨_, rfl⟩
    rw [hk] at HRL hlen h9 h1
    have HBD := hid hbd; have HLEN := hid hlen
    clear hxs hal hk hbd hlen hok b1 rD rR1
    cases al with
    | true =>
      have HRT := hid (fun W (h : Below R w W) => (HRL.out W h).mono (fun e w' hh => show ∃ v, e = .returned v ∧ Below W.heap.size W w' ∧ w'.ownsRow W.heap.size 5 1 v k (xs.map (Value.int .u8)) from by
        obtain ⟨v, he, hB, ⟨_, ho⟩ | ⟨hf, _⟩⟩ := hh
        · exact ⟨v, he, hB, ho⟩
        · cases hf))
      have hmin : (xs.take 8).length = min 8 k := by rw [List.length_take, HLEN.out]
      have HCL := hid (show ((xs.take 8).map (Value.int .u8)).length = Nat.min k 8 from by rw [List.length_map, hmin]; exact Nat.min_comm 8 k)
      have hk9 : k ≤ 9 := h9
      have HFIT := hid (show 0 + ((xs.take 8).map (Value.int .u8)).length ≤ 8 from by rw [HCL.out]; have h : Nat.min k 8 ≤ 8 := Nat.min_le_right k 8; omega)
      clear HRL hmin h9
      go_enter Tryz.func30, Tryz.ntmps30
      go_wp2_with fail
      refine HVW.out.mono ?_
      rintro e v2 ⟨rfl, hw⟩
      subst hw
      go_wp2_with fail
      go_region_held3 (fun _ => True) (trivial)
        ((first | (go_at_call 44; refine (HRT.out _ HB1.out.drew).mono ?_; rintro e v3 ⟨v, rfl, hB3, hO3⟩; obtain ⟨g, cp, rfl, hg, hS3⟩ := owns_stk hO3 h1 HBD.out (by rw [HLEN.out]; omega); simp only [World.size_drew, World.size_alloc] at hB3) | (rw [if_pos (by kernel_rfl)]; refine oper_copy_row _ _ _ _ _ rfl 5 Tryz.underlying22 rfl (R + 1) 0 8 8 k cp ⟨g, 0, none⟩ rfl rfl 39 _ (HRDd.out.below hB3 (by have := HRR.out; omega)) ((xs.take 8).map (Value.int .u8)) HCL.out (fun j u hj => (copy_src hS3 HLEN.out j u hj)) HFIT.out (by intro u hu; simp only [List.mem_map] at hu; obtain ⟨z, _, rfl⟩ := hu; rfl) ?_; intro v4 HR4 HB4 hsz4)))
      have hz3 := hB3.size
      have rR4' := (show Row _ R 39 [.int .u8 0, .int .u8 0, .int .u8 0, .int .u8 0, .int .u8 0, .int .u8 0, .int .u8 0, .int .u8 0] from HRR1.out.below ((Below.refl _ _).drew.trans (show Below _ _ v3 from hB3)) (by have := HRR.out; omega))
      have hb4' := HB4.out R w ((HB1.out.drew).trans (show Below R _ v3 from hB3.mono (by have := HRR.out; omega))) (by omega)
      have rR4 : Row v4 R 39 [.int .u8 0, .int .u8 0, .int .u8 0, .int .u8 0, .int .u8 0, .int .u8 0, .int .u8 0, .int .u8 0] := by
        have := HB4.out (R + 1) _ (Below.refl (R + 1) v3 |>.mono (Nat.le_refl _)) (Nat.le_refl _)
        exact rR4'.below this (by omega)
      have rD4 := HR4.out
      rw [show ([.int .u8 0, .int .u8 0, .int .u8 0, .int .u8 0, .int .u8 0, .int .u8 0, .int .u8 0, .int .u8 0] : List Value) = ([0, 0, 0, 0, 0, 0, 0, 0] : List Int).map (Value.int .u8) from rfl, splice_map, padD_splice] at rD4
      have HPB := hid (padD_bd HBD.out)
      have HNX := hid (show ¬ (okV zs (padD xs) = true ∧ txD zs (padD xs) = t.data.toList) → ¬ ∃ es, Dg zs t.data.toList es from fun h ⟨es, he⟩ => by
        have := (HDG.out es he).2
        subst this
        exact h ⟨he.valid HO.out, he.text HO.out⟩)
      have HYES := hid (fun (h1 : okV zs (padD xs) = true) (h2 : txD zs (padD xs) = t.data.toList) => show Dg zs t.data.toList (padD xs) from by
        rw [← h2]
        refine Dg.of (padD_len xs) (fun j hj => ?_) h1
        unfold ug
        rw [List.getElem?_eq_getElem (by rw [padD_len]; exact hj)]
        exact (HPB.out _ (List.getElem_mem _)).1)
      obtain ⟨e0, e1, e2, e3, e4, e5, e6, e7, hE⟩ := len8 (padD_len xs)
      rw [hE] at rD4 HNX HYES HPB
      have HOC := hid (show Oct e0 e1 e2 e3 e4 e5 e6 e7 from ⟨HPB.out e0 (by simp), HPB.out e1 (by simp), HPB.out e2 (by simp), HPB.out e3 (by simp), HPB.out e4 (by simp), HPB.out e5 (by simp), HPB.out e6 (by simp), HPB.out e7 (by simp)⟩)
      simp only [List.map_cons, List.map_nil] at rD4
      have b4 := hb4'
      clear hE hb4' rR4' HR4 HB4 hsz4 hB3 hO3 hS3 hg hz3 HRT
      have S4 := HS.out.below b4 hbR
      have HVD := hid (validDigits_any b n cap zs e0 e1 e2 e3 e4 e5 e6 e7 v4 S4 HN.out HOC.out)
      obtain ⟨r, hr⟩ : ∃ r, okV zs [e0, e1, e2, e3, e4, e5, e6, e7] = r := ⟨_, rfl⟩
      rw [hr] at HVD
      have c0 := rD4.cell 0; have c1 := rD4.cell 1; have c2 := rD4.cell 2; have c3 := rD4.cell 3; have c4 := rD4.cell 4; have c5 := rD4.cell 5; have c6 := rD4.cell 6; have c7 := rD4.cell 7
      simp only [List.getElem?_cons_zero, List.getElem?_cons_succ] at c0 c1 c2 c3 c4 c5 c6 c7
      have HD4 := hid rD4; have HR4 := hid rR4; have HB4 := hid b4; have HS4 := hid S4
      have hz4 : R ≤ v4.heap.size := by have h := b4.size; have h2 := HRR.out; omega
      clear rD4 rR4 b4 S4
      cases r with
      | false =>
        have HNX2 := hid (HNX.out (fun h => by rw [hr] at h; cases h.1))
        clear hr
        go_wp2_with fail
        refine HVD.out.mono ?_
        rintro e v9 ⟨rfl, hB⟩
        have r1 := HR4.out.below hB HR4.out.lt
        have b9 := HB4.out.trans (hB.mono hz4)
        clear hB c0 c1 c2 c3 c4 c5 c6 c7
        have g0 := r1.cell 0; have k0 := r1.frozen 0; have g1 := r1.cell 1; have k1 := r1.frozen 1; have g2 := r1.cell 2; have k2 := r1.frozen 2; have g3 := r1.cell 3; have k3 := r1.frozen 3; have g4 := r1.cell 4; have k4 := r1.frozen 4; have g5 := r1.cell 5; have k5 := r1.frozen 5; have g6 := r1.cell 6; have k6 := r1.frozen 6; have g7 := r1.cell 7; have k7 := r1.frozen 7
        simp only [List.getElem?_cons_zero, List.getElem?_cons_succ] at g0 g1 g2 g3 g4 g5 g6 g7
        have r2 := hid (r1.set8 rfl (.int .u8 0) (.int .u8 0) (.int .u8 0) (.int .u8 0) (.int .u8 0) (.int .u8 0) (.int .u8 0) (.int .u8 0))
        have b2 := hid (below_set8 (g := R) b9 HRB.out (.int .u8 0) (.int .u8 0) (.int .u8 0) (.int .u8 0) (.int .u8 0) (.int .u8 0) (.int .u8 0) (.int .u8 0))
        clear r1
        go_wp2_with fail
        clear g0 g1 g2 g3 g4 g5 g6 g7 k0 k1 k2 k3 k4 k5 k6 k7
        obtain ⟨W, hW⟩ : ∃ W, W = ((((((((v9.setCell ⟨R, 0, none⟩ (.int .u8 0)).setCell ⟨R, 1, none⟩ (.int .u8 0)).setCell ⟨R, 2, none⟩ (.int .u8 0)).setCell ⟨R, 3, none⟩ (.int .u8 0)).setCell ⟨R, 4, none⟩ (.int .u8 0)).setCell ⟨R, 5, none⟩ (.int .u8 0)).setCell ⟨R, 6, none⟩ (.int .u8 0)).setCell ⟨R, 7, none⟩ (.int .u8 0)) := ⟨_, rfl⟩
        rw [← hW] at r2 b2 ⊢
        clear hW
        have r2 := r2.out
        have g0 := r2.cell 0; have g1 := r2.cell 1; have g2 := r2.cell 2; have g3 := r2.cell 3; have g4 := r2.cell 4; have g5 := r2.cell 5; have g6 := r2.cell 6; have g7 := r2.cell 7
        simp only [List.getElem?_cons_zero, List.getElem?_cons_succ] at g0 g1 g2 g3 g4 g5 g6 g7
        exact bodyPost_ret (v := .tuple #[.agg #[.int .u8 0, .int .u8 0, .int .u8 0, .int .u8 0, .int .u8 0, .int .u8 0, .int .u8 0, .int .u8 0], .int .i64 5]) (by simp [results, Tryz.results30, go_sem, g0, g1, g2, g3, g4, g5, g6, g7]) rfl ⟨[0, 0, 0, 0, 0, 0, 0, 0], 5, rfl, by rw [HRR.out]; exact b2.out, .inr ⟨HO.out, .inr ⟨HNX2.out, rfl, rfl⟩⟩⟩
      | true =>
        clear c0 c1 c2 c3 c4 c5 c6 c7
        have HDT := hid (fun W (h : Below v4.heap.size v4 W) => implDT_any b n cap zs e0 e1 e2 e3 e4 e5 e6 e7 W (HS4.out.below h (by omega)) HN.out HOC.out)
        have c0 := HD4.out.cell 0; have c1 := HD4.out.cell 1; have c2 := HD4.out.cell 2; have c3 := HD4.out.cell 3; have c4 := HD4.out.cell 4; have c5 := HD4.out.cell 5; have c6 := HD4.out.cell 6; have c7 := HD4.out.cell 7
        simp only [List.getElem?_cons_zero, List.getElem?_cons_succ] at c0 c1 c2 c3 c4 c5 c6 c7
        by_cases htx : txD zs [e0, e1, e2, e3, e4, e5, e6, e7] = t.data.toList
        · have HDD := hid (HYES.out hr htx)
          have heq : ((⟨(txD zs [e0, e1, e2, e3, e4, e5, e6, e7]).toArray⟩ : ByteArray).toList == t.toList) = true := by rw [Lib.toList_data, Lib.toList_data, htx]; simp
          have heq2 : ((⟨(txD zs [e0, e1, e2, e3, e4, e5, e6, e7]).toArray⟩ : ByteArray).toList != t.toList) = false := by rw [bne, heq]; rfl
          obtain ⟨T, hT⟩ : ∃ T, (⟨(txD zs [e0, e1, e2, e3, e4, e5, e6, e7]).toArray⟩ : ByteArray) = T := ⟨_, rfl⟩
          rw [hT] at heq heq2 HDT
          clear htx hT hr
          go_wp2_with fail
          refine HVD.out.mono ?_
          rintro e v5 ⟨rfl, hB5⟩
          have rD5 := HD4.out.below hB5 HD4.out.lt
          clear c0 c1 c2 c3 c4 c5 c6 c7
          have c0 := rD5.cell 0; have c1 := rD5.cell 1; have c2 := rD5.cell 2; have c3 := rD5.cell 3; have c4 := rD5.cell 4; have c5 := rD5.cell 5; have c6 := rD5.cell 6; have c7 := rD5.cell 7
          simp only [List.getElem?_cons_zero, List.getElem?_cons_succ] at c0 c1 c2 c3 c4 c5 c6 c7
          have HB5 := hid hB5
          clear hB5
          go_wp2_with fail
          refine (HDT.out _ HB5.out).mono ?_
          rintro e v9 ⟨rfl, hB⟩
          have b9 := HB4.out.trans ((HB5.out.trans (hB.mono HB5.out.size)).mono hz4)
          have r1 := (HR4.out.below HB5.out HR4.out.lt).below hB (Nat.lt_of_lt_of_le (HR4.out.lt) HB5.out.size)
          have rD9 := rD5.below hB rD5.lt
          clear c0 c1 c2 c3 c4 c5 c6 c7 hB rD5
          have c0 := rD9.cell 0; have c1 := rD9.cell 1; have c2 := rD9.cell 2; have c3 := rD9.cell 3; have c4 := rD9.cell 4; have c5 := rD9.cell 5; have c6 := rD9.cell 6; have c7 := rD9.cell 7
          simp only [List.getElem?_cons_zero, List.getElem?_cons_succ] at c0 c1 c2 c3 c4 c5 c6 c7
          clear rD9
          have g0 := r1.cell 0; have k0 := r1.frozen 0; have g1 := r1.cell 1; have k1 := r1.frozen 1; have g2 := r1.cell 2; have k2 := r1.frozen 2; have g3 := r1.cell 3; have k3 := r1.frozen 3; have g4 := r1.cell 4; have k4 := r1.frozen 4; have g5 := r1.cell 5; have k5 := r1.frozen 5; have g6 := r1.cell 6; have k6 := r1.frozen 6; have g7 := r1.cell 7; have k7 := r1.frozen 7
          simp only [List.getElem?_cons_zero, List.getElem?_cons_succ] at g0 g1 g2 g3 g4 g5 g6 g7
          have r2 := hid (r1.set8 rfl (.int .u8 e0) (.int .u8 e1) (.int .u8 e2) (.int .u8 e3) (.int .u8 e4) (.int .u8 e5) (.int .u8 e6) (.int .u8 e7))
          have b2 := hid (below_set8 (g := R) b9 HRB.out (.int .u8 e0) (.int .u8 e1) (.int .u8 e2) (.int .u8 e3) (.int .u8 e4) (.int .u8 e5) (.int .u8 e6) (.int .u8 e7))
          clear r1
          go_wp2_with fail
          clear g0 g1 g2 g3 g4 g5 g6 g7 k0 k1 k2 k3 k4 k5 k6 k7 c0 c1 c2 c3 c4 c5 c6 c7
          obtain ⟨W, hW⟩ : ∃ W, W = ((((((((v9.setCell ⟨R, 0, none⟩ (.int .u8 e0)).setCell ⟨R, 1, none⟩ (.int .u8 e1)).setCell ⟨R, 2, none⟩ (.int .u8 e2)).setCell ⟨R, 3, none⟩ (.int .u8 e3)).setCell ⟨R, 4, none⟩ (.int .u8 e4)).setCell ⟨R, 5, none⟩ (.int .u8 e5)).setCell ⟨R, 6, none⟩ (.int .u8 e6)).setCell ⟨R, 7, none⟩ (.int .u8 e7)) := ⟨_, rfl⟩
          rw [← hW] at r2 b2 ⊢
          clear hW
          have r2 := r2.out
          have g0 := r2.cell 0; have g1 := r2.cell 1; have g2 := r2.cell 2; have g3 := r2.cell 3; have g4 := r2.cell 4; have g5 := r2.cell 5; have g6 := r2.cell 6; have g7 := r2.cell 7
          simp only [List.getElem?_cons_zero, List.getElem?_cons_succ] at g0 g1 g2 g3 g4 g5 g6 g7
          exact bodyPost_ret (v := .tuple #[.agg #[.int .u8 e0, .int .u8 e1, .int .u8 e2, .int .u8 e3, .int .u8 e4, .int .u8 e5, .int .u8 e6, .int .u8 e7], .int .i64 0]) (by simp [results, Tryz.results30, go_sem, g0, g1, g2, g3, g4, g5, g6, g7]) rfl ⟨[e0, e1, e2, e3, e4, e5, e6, e7], 0, rfl, by rw [HRR.out]; exact b2.out, .inr ⟨HO.out, .inl ⟨HDD.out, rfl⟩⟩⟩
        · have HNX2 := hid (HNX.out (fun h => htx h.2))
          have heq : ((⟨(txD zs [e0, e1, e2, e3, e4, e5, e6, e7]).toArray⟩ : ByteArray).toList == t.toList) = false := by rw [Lib.toList_data, Lib.toList_data]; simpa using htx
          have heq2 : ((⟨(txD zs [e0, e1, e2, e3, e4, e5, e6, e7]).toArray⟩ : ByteArray).toList != t.toList) = true := by rw [bne, heq]; rfl
          have heq3 : ¬ (⟨(txD zs [e0, e1, e2, e3, e4, e5, e6, e7]).toArray⟩ : ByteArray).toList = t.toList := by simpa using heq
          obtain ⟨T, hT⟩ : ∃ T, (⟨(txD zs [e0, e1, e2, e3, e4, e5, e6, e7]).toArray⟩ : ByteArray) = T := ⟨_, rfl⟩
          rw [hT] at heq heq2 heq3 HDT
          clear htx hT hr
          go_wp2_with fail
          refine HVD.out.mono ?_
          rintro e v5 ⟨rfl, hB5⟩
          have rD5 := HD4.out.below hB5 HD4.out.lt
          clear c0 c1 c2 c3 c4 c5 c6 c7
          have c0 := rD5.cell 0; have c1 := rD5.cell 1; have c2 := rD5.cell 2; have c3 := rD5.cell 3; have c4 := rD5.cell 4; have c5 := rD5.cell 5; have c6 := rD5.cell 6; have c7 := rD5.cell 7
          simp only [List.getElem?_cons_zero, List.getElem?_cons_succ] at c0 c1 c2 c3 c4 c5 c6 c7
          have HB5 := hid hB5
          clear hB5
          go_wp2_with fail
          refine (HDT.out _ HB5.out).mono ?_
          rintro e v9 ⟨rfl, hB⟩
          have b9 := HB4.out.trans ((HB5.out.trans (hB.mono HB5.out.size)).mono hz4)
          have r1 := (HR4.out.below HB5.out HR4.out.lt).below hB (Nat.lt_of_lt_of_le (HR4.out.lt) HB5.out.size)
          clear c0 c1 c2 c3 c4 c5 c6 c7 hB rD5
          have g0 := r1.cell 0; have k0 := r1.frozen 0; have g1 := r1.cell 1; have k1 := r1.frozen 1; have g2 := r1.cell 2; have k2 := r1.frozen 2; have g3 := r1.cell 3; have k3 := r1.frozen 3; have g4 := r1.cell 4; have k4 := r1.frozen 4; have g5 := r1.cell 5; have k5 := r1.frozen 5; have g6 := r1.cell 6; have k6 := r1.frozen 6; have g7 := r1.cell 7; have k7 := r1.frozen 7
          simp only [List.getElem?_cons_zero, List.getElem?_cons_succ] at g0 g1 g2 g3 g4 g5 g6 g7
          have r2 := hid (r1.set8 rfl (.int .u8 0) (.int .u8 0) (.int .u8 0) (.int .u8 0) (.int .u8 0) (.int .u8 0) (.int .u8 0) (.int .u8 0))
          have b2 := hid (below_set8 (g := R) b9 HRB.out (.int .u8 0) (.int .u8 0) (.int .u8 0) (.int .u8 0) (.int .u8 0) (.int .u8 0) (.int .u8 0) (.int .u8 0))
          clear r1
          go_wp2_with fail
          clear g0 g1 g2 g3 g4 g5 g6 g7 k0 k1 k2 k3 k4 k5 k6 k7
          obtain ⟨W, hW⟩ : ∃ W, W = ((((((((v9.setCell ⟨R, 0, none⟩ (.int .u8 0)).setCell ⟨R, 1, none⟩ (.int .u8 0)).setCell ⟨R, 2, none⟩ (.int .u8 0)).setCell ⟨R, 3, none⟩ (.int .u8 0)).setCell ⟨R, 4, none⟩ (.int .u8 0)).setCell ⟨R, 5, none⟩ (.int .u8 0)).setCell ⟨R, 6, none⟩ (.int .u8 0)).setCell ⟨R, 7, none⟩ (.int .u8 0)) := ⟨_, rfl⟩
          rw [← hW] at r2 b2 ⊢
          clear hW
          have r2 := r2.out
          have g0 := r2.cell 0; have g1 := r2.cell 1; have g2 := r2.cell 2; have g3 := r2.cell 3; have g4 := r2.cell 4; have g5 := r2.cell 5; have g6 := r2.cell 6; have g7 := r2.cell 7
          simp only [List.getElem?_cons_zero, List.getElem?_cons_succ] at g0 g1 g2 g3 g4 g5 g6 g7
          exact bodyPost_ret (v := .tuple #[.agg #[.int .u8 0, .int .u8 0, .int .u8 0, .int .u8 0, .int .u8 0, .int .u8 0, .int .u8 0, .int .u8 0], .int .i64 5]) (by simp [results, Tryz.results30, go_sem, g0, g1, g2, g3, g4, g5, g6, g7]) rfl ⟨[0, 0, 0, 0, 0, 0, 0, 0], 5, rfl, by rw [HRR.out]; exact b2.out, .inr ⟨HO.out, .inr ⟨HNX2.out, rfl, rfl⟩⟩⟩
    | false =>
      have HRF := hid (fun W (h : Below R w W) => (HRL.out W h).mono (fun e w' hh => show e = .returned (.slice none 0 0) ∧ Below W.heap.size W w' from by
        obtain ⟨v, he, hB, ⟨hf, _⟩ | ⟨_, hv⟩⟩ := hh
        · cases hf
        · subst hv; exact ⟨he, hB⟩))
      clear HRL
      go_enter Tryz.func30, Tryz.ntmps30
      go_wp2_with fail
      refine HVW.out.mono ?_
      rintro e v2 ⟨rfl, hw⟩
      subst hw
      go_wp2_with fail
      go_region_held3 (fun _ => True) (trivial)
        ((first | (go_at_call 44; refine (HRF.out _ HB1.out.drew).mono ?_; rintro e v4 ⟨rfl, hB3⟩; simp only [World.size_drew, World.size_alloc] at hB3) | (rw [if_pos (by kernel_rfl)]; refine oper_copy_none _ _ _ _ _ rfl 5 Tryz.underlying22 rfl (some ⟨R + 1, 0, none⟩) none 8 8 0 0 rfl rfl rfl ?_)))
      have b4 := (HB1.out.drew).trans (show Below R _ v4 from hB3.mono (by have := HRR.out; omega))
      have rR4 := (show Row _ R 39 [.int .u8 0, .int .u8 0, .int .u8 0, .int .u8 0, .int .u8 0, .int .u8 0, .int .u8 0, .int .u8 0] from HRR1.out.below ((Below.refl _ _).drew.trans (show Below _ _ v4 from hB3)) (by have := HRR.out; omega))
      have rD4 := (HRDd.out.below hB3 (by have := HRR.out; omega))
      have HNX := hid (show ¬ (okV zs [0, 0, 0, 0, 0, 0, 0, 0] = true ∧ txD zs [0, 0, 0, 0, 0, 0, 0, 0] = t.data.toList) → ¬ ∃ es, Dg zs t.data.toList es from fun h ⟨es, he⟩ => by
        have := (HDG.out es he).1
        cases this)
      have HYES := hid (fun (h1 : okV zs [0, 0, 0, 0, 0, 0, 0, 0] = true) (h2 : txD zs [0, 0, 0, 0, 0, 0, 0, 0] = t.data.toList) => show Dg zs t.data.toList [0, 0, 0, 0, 0, 0, 0, 0] from by
        rw [← h2]
        refine Dg.of rfl (fun j hj => ?_) h1
        match j, hj with
        | 0, _ | 1, _ | 2, _ | 3, _ | 4, _ | 5, _ | 6, _ | 7, _ => decide)
      have HOC := hid (show Oct 0 0 0 0 0 0 0 0 by unfold Oct; omega)
      clear hB3 HRF
      have S4 := HS.out.below b4 hbR
      have HVD := hid (validDigits_any b n cap zs 0 0 0 0 0 0 0 0 v4 S4 HN.out HOC.out)
      obtain ⟨r, hr⟩ : ∃ r, okV zs [0, 0, 0, 0, 0, 0, 0, 0] = r := ⟨_, rfl⟩
      rw [hr] at HVD
      have c0 := rD4.cell 0; have c1 := rD4.cell 1; have c2 := rD4.cell 2; have c3 := rD4.cell 3; have c4 := rD4.cell 4; have c5 := rD4.cell 5; have c6 := rD4.cell 6; have c7 := rD4.cell 7
      simp only [List.getElem?_cons_zero, List.getElem?_cons_succ] at c0 c1 c2 c3 c4 c5 c6 c7
      have HD4 := hid rD4; have HR4 := hid rR4; have HB4 := hid b4; have HS4 := hid S4
      have hz4 : R ≤ v4.heap.size := by have h := b4.size; have h2 := HRR.out; omega
      clear rD4 rR4 b4 S4
      cases r with
      | false =>
        have HNX2 := hid (HNX.out (fun h => by rw [hr] at h; cases h.1))
        clear hr
        go_wp2_with fail
        refine HVD.out.mono ?_
        rintro e v9 ⟨rfl, hB⟩
        have r1 := HR4.out.below hB HR4.out.lt
        have b9 := HB4.out.trans (hB.mono hz4)
        clear hB c0 c1 c2 c3 c4 c5 c6 c7
        have g0 := r1.cell 0; have k0 := r1.frozen 0; have g1 := r1.cell 1; have k1 := r1.frozen 1; have g2 := r1.cell 2; have k2 := r1.frozen 2; have g3 := r1.cell 3; have k3 := r1.frozen 3; have g4 := r1.cell 4; have k4 := r1.frozen 4; have g5 := r1.cell 5; have k5 := r1.frozen 5; have g6 := r1.cell 6; have k6 := r1.frozen 6; have g7 := r1.cell 7; have k7 := r1.frozen 7
        simp only [List.getElem?_cons_zero, List.getElem?_cons_succ] at g0 g1 g2 g3 g4 g5 g6 g7
        have r2 := hid (r1.set8 rfl (.int .u8 0) (.int .u8 0) (.int .u8 0) (.int .u8 0) (.int .u8 0) (.int .u8 0) (.int .u8 0) (.int .u8 0))
        have b2 := hid (below_set8 (g := R) b9 HRB.out (.int .u8 0) (.int .u8 0) (.int .u8 0) (.int .u8 0) (.int .u8 0) (.int .u8 0) (.int .u8 0) (.int .u8 0))
        clear r1
        go_wp2_with fail
        clear g0 g1 g2 g3 g4 g5 g6 g7 k0 k1 k2 k3 k4 k5 k6 k7
        obtain ⟨W, hW⟩ : ∃ W, W = ((((((((v9.setCell ⟨R, 0, none⟩ (.int .u8 0)).setCell ⟨R, 1, none⟩ (.int .u8 0)).setCell ⟨R, 2, none⟩ (.int .u8 0)).setCell ⟨R, 3, none⟩ (.int .u8 0)).setCell ⟨R, 4, none⟩ (.int .u8 0)).setCell ⟨R, 5, none⟩ (.int .u8 0)).setCell ⟨R, 6, none⟩ (.int .u8 0)).setCell ⟨R, 7, none⟩ (.int .u8 0)) := ⟨_, rfl⟩
        rw [← hW] at r2 b2 ⊢
        clear hW
        have r2 := r2.out
        have g0 := r2.cell 0; have g1 := r2.cell 1; have g2 := r2.cell 2; have g3 := r2.cell 3; have g4 := r2.cell 4; have g5 := r2.cell 5; have g6 := r2.cell 6; have g7 := r2.cell 7
        simp only [List.getElem?_cons_zero, List.getElem?_cons_succ] at g0 g1 g2 g3 g4 g5 g6 g7
        exact bodyPost_ret (v := .tuple #[.agg #[.int .u8 0, .int .u8 0, .int .u8 0, .int .u8 0, .int .u8 0, .int .u8 0, .int .u8 0, .int .u8 0], .int .i64 5]) (by simp [results, Tryz.results30, go_sem, g0, g1, g2, g3, g4, g5, g6, g7]) rfl ⟨[0, 0, 0, 0, 0, 0, 0, 0], 5, rfl, by rw [HRR.out]; exact b2.out, .inr ⟨HO.out, .inr ⟨HNX2.out, rfl, rfl⟩⟩⟩
      | true =>
        clear c0 c1 c2 c3 c4 c5 c6 c7
        have HDT := hid (fun W (h : Below v4.heap.size v4 W) => implDT_any b n cap zs 0 0 0 0 0 0 0 0 W (HS4.out.below h (by omega)) HN.out HOC.out)
        have c0 := HD4.out.cell 0; have c1 := HD4.out.cell 1; have c2 := HD4.out.cell 2; have c3 := HD4.out.cell 3; have c4 := HD4.out.cell 4; have c5 := HD4.out.cell 5; have c6 := HD4.out.cell 6; have c7 := HD4.out.cell 7
        simp only [List.getElem?_cons_zero, List.getElem?_cons_succ] at c0 c1 c2 c3 c4 c5 c6 c7
        by_cases htx : txD zs [0, 0, 0, 0, 0, 0, 0, 0] = t.data.toList
        · have HDD := hid (HYES.out hr htx)
          have heq : ((⟨(txD zs [0, 0, 0, 0, 0, 0, 0, 0]).toArray⟩ : ByteArray).toList == t.toList) = true := by rw [Lib.toList_data, Lib.toList_data, htx]; simp
          have heq2 : ((⟨(txD zs [0, 0, 0, 0, 0, 0, 0, 0]).toArray⟩ : ByteArray).toList != t.toList) = false := by rw [bne, heq]; rfl
          obtain ⟨T, hT⟩ : ∃ T, (⟨(txD zs [0, 0, 0, 0, 0, 0, 0, 0]).toArray⟩ : ByteArray) = T := ⟨_, rfl⟩
          rw [hT] at heq heq2 HDT
          clear htx hT hr
          go_wp2_with fail
          refine HVD.out.mono ?_
          rintro e v5 ⟨rfl, hB5⟩
          have rD5 := HD4.out.below hB5 HD4.out.lt
          clear c0 c1 c2 c3 c4 c5 c6 c7
          have c0 := rD5.cell 0; have c1 := rD5.cell 1; have c2 := rD5.cell 2; have c3 := rD5.cell 3; have c4 := rD5.cell 4; have c5 := rD5.cell 5; have c6 := rD5.cell 6; have c7 := rD5.cell 7
          simp only [List.getElem?_cons_zero, List.getElem?_cons_succ] at c0 c1 c2 c3 c4 c5 c6 c7
          have HB5 := hid hB5
          clear hB5
          go_wp2_with fail
          refine (HDT.out _ HB5.out).mono ?_
          rintro e v9 ⟨rfl, hB⟩
          have b9 := HB4.out.trans ((HB5.out.trans (hB.mono HB5.out.size)).mono hz4)
          have r1 := (HR4.out.below HB5.out HR4.out.lt).below hB (Nat.lt_of_lt_of_le (HR4.out.lt) HB5.out.size)
          have rD9 := rD5.below hB rD5.lt
          clear c0 c1 c2 c3 c4 c5 c6 c7 hB rD5
          have c0 := rD9.cell 0; have c1 := rD9.cell 1; have c2 := rD9.cell 2; have c3 := rD9.cell 3; have c4 := rD9.cell 4; have c5 := rD9.cell 5; have c6 := rD9.cell 6; have c7 := rD9.cell 7
          simp only [List.getElem?_cons_zero, List.getElem?_cons_succ] at c0 c1 c2 c3 c4 c5 c6 c7
          clear rD9
          have g0 := r1.cell 0; have k0 := r1.frozen 0; have g1 := r1.cell 1; have k1 := r1.frozen 1; have g2 := r1.cell 2; have k2 := r1.frozen 2; have g3 := r1.cell 3; have k3 := r1.frozen 3; have g4 := r1.cell 4; have k4 := r1.frozen 4; have g5 := r1.cell 5; have k5 := r1.frozen 5; have g6 := r1.cell 6; have k6 := r1.frozen 6; have g7 := r1.cell 7; have k7 := r1.frozen 7
          simp only [List.getElem?_cons_zero, List.getElem?_cons_succ] at g0 g1 g2 g3 g4 g5 g6 g7
          have r2 := hid (r1.set8 rfl (.int .u8 0) (.int .u8 0) (.int .u8 0) (.int .u8 0) (.int .u8 0) (.int .u8 0) (.int .u8 0) (.int .u8 0))
          have b2 := hid (below_set8 (g := R) b9 HRB.out (.int .u8 0) (.int .u8 0) (.int .u8 0) (.int .u8 0) (.int .u8 0) (.int .u8 0) (.int .u8 0) (.int .u8 0))
          clear r1
          go_wp2_with fail
          clear g0 g1 g2 g3 g4 g5 g6 g7 k0 k1 k2 k3 k4 k5 k6 k7 c0 c1 c2 c3 c4 c5 c6 c7
          obtain ⟨W, hW⟩ : ∃ W, W = ((((((((v9.setCell ⟨R, 0, none⟩ (.int .u8 0)).setCell ⟨R, 1, none⟩ (.int .u8 0)).setCell ⟨R, 2, none⟩ (.int .u8 0)).setCell ⟨R, 3, none⟩ (.int .u8 0)).setCell ⟨R, 4, none⟩ (.int .u8 0)).setCell ⟨R, 5, none⟩ (.int .u8 0)).setCell ⟨R, 6, none⟩ (.int .u8 0)).setCell ⟨R, 7, none⟩ (.int .u8 0)) := ⟨_, rfl⟩
          rw [← hW] at r2 b2 ⊢
          clear hW
          have r2 := r2.out
          have g0 := r2.cell 0; have g1 := r2.cell 1; have g2 := r2.cell 2; have g3 := r2.cell 3; have g4 := r2.cell 4; have g5 := r2.cell 5; have g6 := r2.cell 6; have g7 := r2.cell 7
          simp only [List.getElem?_cons_zero, List.getElem?_cons_succ] at g0 g1 g2 g3 g4 g5 g6 g7
          exact bodyPost_ret (v := .tuple #[.agg #[.int .u8 0, .int .u8 0, .int .u8 0, .int .u8 0, .int .u8 0, .int .u8 0, .int .u8 0, .int .u8 0], .int .i64 0]) (by simp [results, Tryz.results30, go_sem, g0, g1, g2, g3, g4, g5, g6, g7]) rfl ⟨[0, 0, 0, 0, 0, 0, 0, 0], 0, rfl, by rw [HRR.out]; exact b2.out, .inr ⟨HO.out, .inl ⟨HDD.out, rfl⟩⟩⟩
        · have HNX2 := hid (HNX.out (fun h => htx h.2))
          have heq : ((⟨(txD zs [0, 0, 0, 0, 0, 0, 0, 0]).toArray⟩ : ByteArray).toList == t.toList) = false := by rw [Lib.toList_data, Lib.toList_data]; simpa using htx
          have heq2 : ((⟨(txD zs [0, 0, 0, 0, 0, 0, 0, 0]).toArray⟩ : ByteArray).toList != t.toList) = true := by rw [bne, heq]; rfl
          have heq3 : ¬ (⟨(txD zs [0, 0, 0, 0, 0, 0, 0, 0]).toArray⟩ : ByteArray).toList = t.toList := by simpa using heq
          obtain ⟨T, hT⟩ : ∃ T, (⟨(txD zs [0, 0, 0, 0, 0, 0, 0, 0]).toArray⟩ : ByteArray) = T := ⟨_, rfl⟩
          rw [hT] at heq heq2 heq3 HDT
          clear htx hT hr
          go_wp2_with fail
          refine HVD.out.mono ?_
          rintro e v5 ⟨rfl, hB5⟩
          have rD5 := HD4.out.below hB5 HD4.out.lt
          clear c0 c1 c2 c3 c4 c5 c6 c7
          have c0 := rD5.cell 0; have c1 := rD5.cell 1; have c2 := rD5.cell 2; have c3 := rD5.cell 3; have c4 := rD5.cell 4; have c5 := rD5.cell 5; have c6 := rD5.cell 6; have c7 := rD5.cell 7
          simp only [List.getElem?_cons_zero, List.getElem?_cons_succ] at c0 c1 c2 c3 c4 c5 c6 c7
          have HB5 := hid hB5
          clear hB5
          go_wp2_with fail
          refine (HDT.out _ HB5.out).mono ?_
          rintro e v9 ⟨rfl, hB⟩
          have b9 := HB4.out.trans ((HB5.out.trans (hB.mono HB5.out.size)).mono hz4)
          have r1 := (HR4.out.below HB5.out HR4.out.lt).below hB (Nat.lt_of_lt_of_le (HR4.out.lt) HB5.out.size)
          clear c0 c1 c2 c3 c4 c5 c6 c7 hB rD5
          have g0 := r1.cell 0; have k0 := r1.frozen 0; have g1 := r1.cell 1; have k1 := r1.frozen 1; have g2 := r1.cell 2; have k2 := r1.frozen 2; have g3 := r1.cell 3; have k3 := r1.frozen 3; have g4 := r1.cell 4; have k4 := r1.frozen 4; have g5 := r1.cell 5; have k5 := r1.frozen 5; have g6 := r1.cell 6; have k6 := r1.frozen 6; have g7 := r1.cell 7; have k7 := r1.frozen 7
          simp only [List.getElem?_cons_zero, List.getElem?_cons_succ] at g0 g1 g2 g3 g4 g5 g6 g7
          have r2 := hid (r1.set8 rfl (.int .u8 0) (.int .u8 0) (.int .u8 0) (.int .u8 0) (.int .u8 0) (.int .u8 0) (.int .u8 0) (.int .u8 0))
          have b2 := hid (below_set8 (g := R) b9 HRB.out (.int .u8 0) (.int .u8 0) (.int .u8 0) (.int .u8 0) (.int .u8 0) (.int .u8 0) (.int .u8 0) (.int .u8 0))
          clear r1
          go_wp2_with fail
          clear g0 g1 g2 g3 g4 g5 g6 g7 k0 k1 k2 k3 k4 k5 k6 k7
          obtain ⟨W, hW⟩ : ∃ W, W = ((((((((v9.setCell ⟨R, 0, none⟩ (.int .u8 0)).setCell ⟨R, 1, none⟩ (.int .u8 0)).setCell ⟨R, 2, none⟩ (.int .u8 0)).setCell ⟨R, 3, none⟩ (.int .u8 0)).setCell ⟨R, 4, none⟩ (.int .u8 0)).setCell ⟨R, 5, none⟩ (.int .u8 0)).setCell ⟨R, 6, none⟩ (.int .u8 0)).setCell ⟨R, 7, none⟩ (.int .u8 0)) := ⟨_, rfl⟩
          rw [← hW] at r2 b2 ⊢
          clear hW
          have r2 := r2.out
          have g0 := r2.cell 0; have g1 := r2.cell 1; have g2 := r2.cell 2; have g3 := r2.cell 3; have g4 := r2.cell 4; have g5 := r2.cell 5; have g6 := r2.cell 6; have g7 := r2.cell 7
          simp only [List.getElem?_cons_zero, List.getElem?_cons_succ] at g0 g1 g2 g3 g4 g5 g6 g7
          exact bodyPost_ret (v := .tuple #[.agg #[.int .u8 0, .int .u8 0, .int .u8 0, .int .u8 0, .int .u8 0, .int .u8 0, .int .u8 0, .int .u8 0], .int .i64 5]) (by simp [results, Tryz.results30, go_sem, g0, g1, g2, g3, g4, g5, g6, g7]) rfl ⟨[0, 0, 0, 0, 0, 0, 0, 0], 5, rfl, by rw [HRR.out]; exact b2.out, .inr ⟨HO.out, .inr ⟨HNX2.out, rfl, rfl⟩⟩⟩
end Go.Proofs.YtcanfcpofihoeaaGreatDoor

namespace Go.Proofs.YtcanfcpofihoeaaGreatDoor
open Go.RowKit Go.Shelf
set_option linter.unusedSimpArgs false
set_option maxRecDepth 100000 in
set_option maxHeartbeats 4000000 in
theorem itv1_inN (F : Fence) (m : Nat) (hf : F.fn 70) (hro : F.round = none) (hm : 1 ≤ m) (l Bs b n cap : Nat) (js : List (Int × Int)) (a : Option Addr) (ha : n = 0 ∨ a = some ⟨b, 0, none⟩) (hn : n = js.length) (hl : n ≤ 1048576) (J Jx : List (Fin (n - 1)) → World → Prop)
    (hY : ∀ pre (x : Fin (n - 1)) W, J pre W → pre.length < n - 1 → YieldAt F (m - 1) Tryz.prog l (itvA js x.1) W fun e W' =>
      (e = .returned (.bool true) ∧ J (pre ++ [x]) W' ∧ KeepB (fun g => g = b ∨ g = Bs) W W') ∨ (e = .returned (.bool false) ∧ Jx (pre ++ [x]) W'))
    (hd : ∀ pre A B, J pre A → A.grownBy B none → J pre B)
    (W : World) (hBs : W.cell? ⟨Bs, 0, none⟩ = some (.slice a n cap)) (hc : ∀ j, j < n → W.cell? ⟨b, j * 2, none⟩ = some (.int .i64 (rd js j)) ∧ W.cell? ⟨b, j * 2 + 1, none⟩ = some (.int .i64 (rv js j))) (h0 : J [] W) :
    CallsIn F m Tryz.prog 70 #[.func (.yield l) #[] #[], .pointer (some ⟨Bs, 0, none⟩)] W fun e W' => (∃ v, e = .returned v) ∧
      ((∃ ys, ys = List.finRange (n - 1) ∧ J ys W') ∨ (∃ pre, (∃ k, k ≤ n - 1 ∧ pre = (List.finRange (n - 1)).take k) ∧ Jx pre W')) := by
  have HD := hid hd
  have hC := hid hc
  have hBB := hid hBs
  clear hn hc hd hBs
  refine callsIn_of_wp Tryz.func70 rfl hf ?_ hro
  simp only [Tryz.ntmps70, List.size_toArray, List.length_cons, List.length_nil, Nat.reduceAdd, Nat.reduceSub, Array.replicate_succ, Array.replicate_zero, List.push_toArray, List.append_toArray, List.nil_append, List.cons_append]
  gi_wp2
  gi_loopw [3] (fun i wr => ∃ k c : Nat, c = k + 1 ∧ k ≤ n - 1 ∧ i = .int .i64 (c : Int) ∧ J ((List.finRange (n - 1)).take k) wr ∧ KeepB (fun g => g = b ∨ g = Bs) W wr)
    (fun i _ => n - (intOf i).toNat)
  case atStart => exact ⟨0, 1, rfl, Nat.zero_le _, rfl, h0, KeepB.refl _ _⟩
  case round =>
    obtain ⟨k, c, hck, hk, rfl, hJs, hK⟩ := hrel
    have hbx := (hK.cell (g := Bs) (.inr rfl) 0).trans hBB.out
    have HCK := hid hck
    have hc0 : (0 : Int) ≤ (c : Int) := by omega
    by_cases hlt : k < n - 1
    · obtain rfl : a = some ⟨b, 0, none⟩ := ha.resolve_left (by omega)
      have x0 := (hK.cell (g := b) (.inl rfl) (k * 2)).trans (hC.out k (by omega)).1
      have x1 := (hK.cell (g := b) (.inl rfl) (k * 2 + 1)).trans (hC.out k (by omega)).2
      have x2 := (hK.cell (g := b) (.inl rfl) (c * 2)).trans (hC.out c (by omega)).1
      have x3 := (hK.cell (g := b) (.inl rfl) (c * 2 + 1)).trans (hC.out c (by omega)).2
      obtain ⟨fn, tmps, assign, body, hy, hR⟩ := hY _ ⟨k, hlt⟩ wr.drew (HD.out _ _ _ hJs ⟨rfl, rfl, rfl, Nat.le_refl _, fun _ _ _ => rfl⟩) (by rw [finTake_length (n - 1) k hk]; exact hlt)
      have hlen := hid (finTake_succ (n - 1) k hlt)
      unfold itvA at hy
      dsimp only at hy
      rw [← hck, show ((k : Int) + 1) = (c : Int) by omega] at hy
      obtain ⟨p, hp⟩ : ∃ p, rd js k = p := ⟨_, rfl⟩
      obtain ⟨q, hq⟩ : ∃ p, rv js k = p := ⟨_, rfl⟩
      obtain ⟨u, hu⟩ : ∃ p, rd js c = p := ⟨_, rfl⟩
      obtain ⟨v, hv⟩ : ∃ p, rv js c = p := ⟨_, rfl⟩
      rw [hp] at x0 hy
      rw [hq] at x1 hy
      rw [hu] at x2 hy
      rw [hv] at x3 hy
      have hlt' : (c : Int) < (n : Int) := by omega
      have hcn : c < n := by omega
      have hkn : k < n := by omega
      have hk0 : (0 : Int) ≤ (k : Int) := by omega
      have e1 : (c : Int) - 1 = (k : Int) := by omega
      have tk : IntKind.i64.wrap (k : Int) = (k : Int) := IntWalk.i64_in _ (by omega)
      clear hp hq hu hv hck
      gi_wp2
      refine region_call (S := fun W' : World => W'.cell? ⟨Bs, 0, none⟩ = some (.slice (some ⟨b, 0, none⟩) n cap) ∧ W'.cell? ⟨b, k * 2, none⟩ = some (.int .i64 p) ∧ W'.cell? ⟨b, k * 2 + 1, none⟩ = some (.int .i64 q) ∧ W'.cell? ⟨b, c * 2, none⟩ = some (.int .i64 u) ∧ W'.cell? ⟨b, c * 2 + 1, none⟩ = some (.int .i64 v)) 12 (by kernel_rfl) (by kernel_rfl) (fun hnd => ?_)
      have hS : (fun W' : World => W'.cell? ⟨Bs, 0, none⟩ = some (.slice (some ⟨b, 0, none⟩) n cap) ∧ W'.cell? ⟨b, k * 2, none⟩ = some (.int .i64 p) ∧ W'.cell? ⟨b, k * 2 + 1, none⟩ = some (.int .i64 q) ∧ W'.cell? ⟨b, c * 2, none⟩ = some (.int .i64 u) ∧ W'.cell? ⟨b, c * 2 + 1, none⟩ = some (.int .i64 v)) wr.drew := ⟨hbx, x0, x1, x2, x3⟩
      refine anyC_takeD [12] (some 10) (i := 0) (v := ?_) (by kernel_rfl) hnd rfl rfl (by kernel_rfl) (by kernel_rfl) (by kernel_rfl) (fun _ _ _ h => h) ⟨by rfl, ?_, fun _ => rfl⟩ hS ?_
      rotate_left
      · intro w' hw'
        obtain ⟨hw1, hw2, hw3, hw4, hw5⟩ := hw'
        go_simp
        try with_reducible rfl
      simp only [Act.put, List.setIfInBounds_toArray, List.set_cons_zero, List.set_cons_succ]
      refine anyC_takeD [12] (some 11) (i := 1) (v := ?_) (by kernel_rfl) hnd rfl rfl (by kernel_rfl) (by kernel_rfl) (by kernel_rfl) (fun _ _ _ h => h) ⟨by rfl, ?_, fun _ => rfl⟩ hS ?_
      rotate_left
      · intro w' hw'
        obtain ⟨hw1, hw2, hw3, hw4, hw5⟩ := hw'
        go_simp
        try with_reducible rfl
      simp only [Act.put, List.setIfInBounds_toArray, List.set_cons_zero, List.set_cons_succ]
      refine anyC_takeD [5, 6, 11, 12] (some 12) (i := 2) (v := ?_) (by kernel_rfl) hnd rfl rfl (by kernel_rfl) (by kernel_rfl) (by kernel_rfl) (fun _ _ _ h => h) ⟨by rfl, ?_, fun _ => rfl⟩ hS ?_
      rotate_left
      · intro w' hw'
        obtain ⟨hw1, hw2, hw3, hw4, hw5⟩ := hw'
        go_simp
        try with_reducible rfl
      simp only [Act.put, List.setIfInBounds_toArray, List.set_cons_zero, List.set_cons_succ]
      refine anyC_takeD [4, 5, 6, 11, 12] (some 13) (i := 3) (v := ?_) (by kernel_rfl) hnd rfl rfl (by kernel_rfl) (by kernel_rfl) (by kernel_rfl) (fun _ _ _ h => h) ⟨by rfl, ?_, fun _ => rfl⟩ hS ?_
      rotate_left
      · intro w' hw'
        obtain ⟨hw1, hw2, hw3, hw4, hw5⟩ := hw'
        go_simp
        try with_reducible rfl
      simp only [Act.put, List.setIfInBounds_toArray, List.set_cons_zero, List.set_cons_succ]
      refine anyC_takeD [5, 6, 11, 12] (some 14) (i := 4) (v := ?_) (by kernel_rfl) hnd rfl rfl (by kernel_rfl) (by kernel_rfl) (by kernel_rfl) (fun _ _ _ h => h) ⟨by rfl, ?_, fun _ => rfl⟩ hS ?_
      rotate_left
      · intro w' hw'
        obtain ⟨hw1, hw2, hw3, hw4, hw5⟩ := hw'
        go_simp
        try with_reducible rfl
      simp only [Act.put, List.setIfInBounds_toArray, List.set_cons_zero, List.set_cons_succ]
      refine anyC_takeD [6, 11, 12] (some 15) (i := 5) (v := ?_) (by kernel_rfl) hnd rfl rfl (by kernel_rfl) (by kernel_rfl) (by kernel_rfl) (fun _ _ _ h => h) ⟨by rfl, ?_, fun _ => rfl⟩ hS ?_
      rotate_left
      · intro w' hw'
        obtain ⟨hw1, hw2, hw3, hw4, hw5⟩ := hw'
        go_simp
        try with_reducible rfl
      simp only [Act.put, List.setIfInBounds_toArray, List.set_cons_zero, List.set_cons_succ]
      refine anyC_takeD [11, 12] (some 16) (i := 6) (v := ?_) (by kernel_rfl) hnd rfl rfl (by kernel_rfl) (by kernel_rfl) (by kernel_rfl) (fun _ _ _ h => h) ⟨by rfl, ?_, fun _ => rfl⟩ hS ?_
      rotate_left
      · intro w' hw'
        obtain ⟨hw1, hw2, hw3, hw4, hw5⟩ := hw'
        go_simp
        try with_reducible rfl
      simp only [Act.put, List.setIfInBounds_toArray, List.set_cons_zero, List.set_cons_succ]
      refine anyC_takeD [9, 10, 11, 12] (some 17) (i := 7) (v := ?_) (by kernel_rfl) hnd rfl rfl (by kernel_rfl) (by kernel_rfl) (by kernel_rfl) (fun _ _ _ h => h) ⟨by rfl, ?_, fun _ => rfl⟩ hS ?_
      rotate_left
      · intro w' hw'
        obtain ⟨hw1, hw2, hw3, hw4, hw5⟩ := hw'
        go_simp
        try with_reducible rfl
      simp only [Act.put, List.setIfInBounds_toArray, List.set_cons_zero, List.set_cons_succ]
      refine anyC_takeD [9, 10, 11, 12] (some 18) (i := 8) (v := ?_) (by kernel_rfl) hnd rfl rfl (by kernel_rfl) (by kernel_rfl) (by kernel_rfl) (fun _ _ _ h => h) ⟨by rfl, ?_, fun _ => rfl⟩ hS ?_
      rotate_left
      · intro w' hw'
        obtain ⟨hw1, hw2, hw3, hw4, hw5⟩ := hw'
        go_simp
        try with_reducible rfl
      simp only [Act.put, List.setIfInBounds_toArray, List.set_cons_zero, List.set_cons_succ]
      refine anyC_takeD [10, 11, 12] (some 19) (i := 9) (v := ?_) (by kernel_rfl) hnd rfl rfl (by kernel_rfl) (by kernel_rfl) (by kernel_rfl) (fun _ _ _ h => h) ⟨by rfl, ?_, fun _ => rfl⟩ hS ?_
      rotate_left
      · intro w' hw'
        obtain ⟨hw1, hw2, hw3, hw4, hw5⟩ := hw'
        go_simp
        try with_reducible rfl
      simp only [Act.put, List.setIfInBounds_toArray, List.set_cons_zero, List.set_cons_succ]
      refine anyC_takeD [11, 12] (some 20) (i := 10) (v := ?_) (by kernel_rfl) hnd rfl rfl (by kernel_rfl) (by kernel_rfl) (by kernel_rfl) (fun _ _ _ h => h) ⟨by rfl, ?_, fun _ => rfl⟩ hS ?_
      rotate_left
      · intro w' hw'
        obtain ⟨hw1, hw2, hw3, hw4, hw5⟩ := hw'
        go_simp
        try with_reducible rfl
      simp only [Act.put, List.setIfInBounds_toArray, List.set_cons_zero, List.set_cons_succ]
      refine anyC_takeD [12] (some 21) (i := 11) (v := ?_) (by kernel_rfl) hnd rfl rfl (by kernel_rfl) (by kernel_rfl) (by kernel_rfl) (fun _ _ _ h => h) ⟨by rfl, ?_, fun _ => rfl⟩ hS ?_
      rotate_left
      · intro w' hw'
        obtain ⟨hw1, hw2, hw3, hw4, hw5⟩ := hw'
        go_simp
        try with_reducible rfl
      simp only [Act.put, List.setIfInBounds_toArray, List.set_cons_zero, List.set_cons_succ]
      refine anyC_call (by kernel_rfl) rfl (by rfl) (fun K hKK => ?_)
      go_simp
      refine hR.mono ?_
      rintro e W3 h3
      obtain ⟨bv, rfl, h3a, h3b⟩ := yield_two h3
      dsimp only
      refine hKK _ _ ?_
      refine wpAnyIn_take (i := 13) (v := ?_) hro rfl (by kernel_rfl) (by kernel_rfl) (by kernel_rfl) (fun _ _ _ h => h) ⟨Or.inl ⟨by rfl, ?_⟩, fun _ => rfl⟩ ?_
      rotate_left
      · intro w'
        go_simp
        try with_reducible rfl
      simp only [Act.put, List.setIfInBounds_toArray, List.set_cons_zero, List.set_cons_succ]
      refine wpAnyIn_done (by kernel_rfl) ?_ _
      cases bv
      · have h5 := hid (h3b rfl)
        gi_wp2
        refine bodyPost_ret (results_none rfl _ _ _) rfl ?_
        exact ⟨⟨_, rfl⟩, .inr ⟨_, ⟨k + 1, by omega, hlen.out.symm⟩, h5.out⟩⟩
      · have h5 := hid (h3a rfl)
        gi_wp2
        go_roundw
        case rel => exact ⟨k + 1, c + 1, by have := HCK.out; omega, by omega, by go_num, by rw [hlen.out]; exact h5.out.1, hK.trans h5.out.2⟩
        case measure => simp [intOf]; omega
    · obtain rfl : k = n - 1 := by omega
      have hlt' : ¬ (c : Int) < (n : Int) := by omega
      have hge : (n : Int) ≤ (c : Int) := by omega
      gi_wp2
      go_end0
      rw [finTake_all (n - 1)] at hJs
      exact ⟨⟨_, rfl⟩, .inl hJs⟩
end Go.Proofs.YtcanfcpofihoeaaGreatDoor

namespace Go.Proofs.YtcanfcpofihoeaaGreatDoor
open Go.RowKit Go.Shelf
theorem itv_stopsN (F : Fence) (m : Nat) (hf : F.fn 70) (hro : F.round = none) (hm : 1 ≤ m) (Bs b n cap : Nat) (js : List (Int × Int)) (a : Option Addr) (ha : n = 0 ∨ a = some ⟨b, 0, none⟩) (hn : n = js.length) (hl : n ≤ 1048576) (w : World) (hBs : Bs < w.heap.size) (hb : b < w.heap.size)
    (hc : w.cell? ⟨Bs, 0, none⟩ = some (.slice a n cap)) (hI : ∀ j, j < n → w.cell? ⟨b, j * 2, none⟩ = some (.int .i64 (rd js j)) ∧ w.cell? ⟨b, j * 2 + 1, none⟩ = some (.int .i64 (rv js j))) :
    SeqStopsK F m Tryz.prog 70 #[.pointer (some ⟨Bs, 0, none⟩)] (fun x : Fin (n - 1) => itvA js x.1) (KeepB (fun g => g = b ∨ g = Bs)) (fun ys => ys = List.finRange (n - 1))
      (fun pre => ∃ k, k ≤ n - 1 ∧ pre = (List.finRange (n - 1)).take k) (n - 1) w := fun l J Jx W hW hA _ hY h0 => by
  exact itv1_inN F m hf hro hm l Bs b n cap js a ha hn hl J Jx hY (fun pre A B hj hg => hA pre A B none hj hg (fun r e => by cases e)) W ((hW.cell (p := ⟨Bs, 0, none⟩) hBs).trans hc)
    (fun j hj => ⟨(hW.cell (p := ⟨b, j * 2, none⟩) hb).trans (hI j hj).1, (hW.cell (p := ⟨b, j * 2 + 1, none⟩) hb).trans (hI j hj).2⟩) h0
end Go.Proofs.YtcanfcpofihoeaaGreatDoor

namespace Go.Proofs.YtcanfcpofihoeaaGreatDoor
open Go.RowKit Go.Shelf
attribute [local go_sem] Oper.semAt_some
set_option maxRecDepth 100000 in
set_option maxHeartbeats 4000000 in
theorem implValidLog_anyN (bS nS capS : Nat) (zs : List Int) (hnS : nS = zs.length) (b n cap : Nat) (js : List (Int × Int)) (a : Option Addr) (ha : n = 0 ∨ a = some ⟨b, 0, none⟩) (hn : n = js.length) (w : World) (hS : Stk w bS zs) (hR : Rst w b js) :
    Calls Tryz.prog 32 #[.slice (some ⟨bS, 0, none⟩) nS capS, .slice a n cap] w (GivesB w (.bool (okG zs js))) := by
  have hle := hR.2.2
  rw [← hn] at hle
  have hC := hid hR.2.1
  have hbl := hR.1
  have hbs := hS.1
  have HS := hid hS
  have hN := hid hn
  have RB := hid (Row.new w 4 [.bool false])
  have BE := hid (show Below w.heap.size w (w.alloc (.cells #[.bool false] 4)) from (Below.refl _ w).alloc (Nat.le_refl _) _)
  have HV := hid (validStack_any bS nS capS zs _ (hS.below BE.out hS.1) hnS)
  clear hS hR hn
  have hm : 1 ≤ 8 := by omega
  have g1 : Fence.wide.fn 18 := trivial
  have g2 : Fence.wide.fn 47 := trivial
  have g3 : Fence.wide.fn 48 := trivial
  have g4 : Fence.wide.fn 49 := trivial
  refine (callsIn_wide (n := 8)).1 ?_
  cases hv : okL zs with
  | false =>
    rw [okG_stack hv]
    rw [hv] at HV
    clear hv hnS
    have c0 := RB.out.cell 0
    have f0 := RB.out.frozen 0
    simp only [List.getElem?_cons_zero] at c0
    refine callsIn_of_wp_marks Tryz.func32 rfl trivial ?_ rfl
    simp only [Tryz.ntmps32, List.size_toArray, List.length_cons, List.length_nil, Nat.reduceAdd, Nat.reduceSub, Array.replicate_succ, Array.replicate_zero, List.push_toArray, List.append_toArray, List.nil_append, List.cons_append]
    gi_wp2_with (gi_at_call 18; refine (callsIn_wide.2 HV.out).mono ?_; rintro e w' ⟨rfl, rfl⟩)
    exact ⟨.bool false, by simp [results, Tryz.f32, go_sem, c0], rfl, BE.out⟩
  | true =>
    rw [hv] at HV
    by_cases h40 : 40 < n
    · rw [okG_long (by rw [← hN.out]; exact h40)]
      have hg : (40 : Int) < (n : Int) := by omega
      clear hv hnS
      have c0 := RB.out.cell 0
      have f0 := RB.out.frozen 0
      simp only [List.getElem?_cons_zero] at c0
      refine callsIn_of_wp_marks Tryz.func32 rfl trivial ?_ rfl
      simp only [Tryz.ntmps32, List.size_toArray, List.length_cons, List.length_nil, Nat.reduceAdd, Nat.reduceSub, Array.replicate_succ, Array.replicate_zero, List.push_toArray, List.append_toArray, List.nil_append, List.cons_append]
      gi_wp2_with (gi_at_call 18; refine (callsIn_wide.2 HV.out).mono ?_; rintro e w' ⟨rfl, rfl⟩)
      exact ⟨.bool false, by simp [results, Tryz.f32, go_sem, c0], rfl, BE.out⟩
    have hg : (n : Int) ≤ 40 := by omega
    have HR := hid (fun d x w hS => hasReading_any bS nS capS zs hnS hv d x w hS)
    have HVV := hid hv
    clear hv hnS
    refine callsIn_of_wp_marks Tryz.func32 rfl trivial ?_ rfl
    simp only [Tryz.ntmps32, List.size_toArray, List.length_cons, List.length_nil, Nat.reduceAdd, Nat.reduceSub, Array.replicate_succ, Array.replicate_zero, List.push_toArray, List.append_toArray, List.nil_append, List.cons_append]
    gi_wp2_with (gi_at_call 18; refine (callsIn_wide.2 HV.out).mono ?_; rintro e w' ⟨rfl, rfl⟩)
    gi_loopw [19] (fun i wr => ∃ k : Nat, k ≤ n ∧ i = .int .i64 k ∧ rdTo zs js k ∧ Row wr w.heap.size 4 [.bool false] ∧ Below w.heap.size w wr) (fun i _ => n - (intOf i).toNat)
    case atStart => exact ⟨0, Nat.zero_le _, rfl, fun j hj => by omega, RB.out, BE.out⟩
    case round =>
      obtain ⟨k, hk, rfl, hrd, hrow, hB⟩ := hrel
      have HT := hid hrd
      have hzr := hB.size
      have hl0 := hrow.lt
      have RW := hid hrow
      clear hrd hrow
      by_cases hlt : k < n
      · obtain rfl : a = some ⟨b, 0, none⟩ := ha.resolve_left (by omega)
        have hlt' : (k : Int) < (n : Int) := by omega
        have hk0 : (0 : Int) ≤ (k : Int) := by omega
        have cc := hC.out k (by rw [← hN.out]; exact hlt)
        have x0 := (hB.cell (p := ⟨b, k * 2, none⟩) hbl).trans cc.1
        have x1 := (hB.cell (p := ⟨b, k * 2 + 1, none⟩) hbl).trans cc.2
        have HO := hid (okG_rd (zs := zs) (js := js) k (by rw [← hN.out]; exact hlt))
        have HT2 := hid (fun e => rdTo_succ (k := k) HT.out e)
        have HRk := hid (fun W (h : Below wr.heap.size wr W) => HR.out (rd js k) (rv js k) W ((HS.out.below hB hbs).below h (Nat.lt_of_lt_of_le hbs hzr)))
        have lb : b < wr.heap.size := Nat.lt_of_lt_of_le hbl hzr
        obtain ⟨r, hr⟩ : ∃ r, okRd (szL zs) (rd js k) (rv js k) = r := ⟨_, rfl⟩
        rw [hr] at HO HT2 HRk
        obtain ⟨x, hx⟩ : ∃ x, rd js k = x := ⟨_, rfl⟩
        obtain ⟨y, hy⟩ : ∃ y, rv js k = y := ⟨_, rfl⟩
        rw [hx] at x0 HRk
        rw [hy] at x1 HRk
        clear cc hx hy hr
        have bA := hid (show Below wr.heap.size wr (wr.alloc (.cells #[.int .i64 x, .int .i64 y] 44)) from box2_bel wr _ _ _)
        cases r
        · gi_wp2_with (gi_at_call 47; refine (callsIn_wide.2 (HRk.out _ bA.out)).mono ?_; rintro e w1 ⟨rfl, hB1⟩; have hz1 := hB1.size; simp only [World.size_alloc] at hB1 hz1; have r1 := (RW.out.alloc (.cells #[.int .i64 x, .int .i64 y] 44)).below hB1 (by omega); have c1 := r1.cell 0; have f1 := r1.frozen 0; simp only [List.getElem?_cons_zero] at c1)
          have rs := r1.set 0 (.bool false)
          have c2 := rs.cell 0
          simp only [List.set_cons_zero, List.getElem?_cons_zero] at c2
          exact ⟨.bool false, by simp [results, Tryz.f32, go_sem, c2], by rw [HO.out (by simp)], (hB.trans ((bA.out.mono hzr).trans (hB1.mono (by omega)))).setCell (p := ⟨w.heap.size, 0, none⟩) (Nat.le_refl _) _⟩
        · gi_wp2_with (gi_at_call 47; refine (callsIn_wide.2 (HRk.out _ bA.out)).mono ?_; rintro e w1 ⟨rfl, hB1⟩; have hz1 := hB1.size; simp only [World.size_alloc] at hB1 hz1; have r1 := (RW.out.alloc (.cells #[.int .i64 x, .int .i64 y] 44)).below hB1 (by omega))
          go_roundw
          case rel => exact ⟨k + 1, by omega, by go_num, HT2.out (by simp), r1, hB.trans ((bA.out.mono hzr).trans (hB1.mono (by omega)))⟩
          case measure => simp [intOf]; omega
      · obtain rfl : k = n := by omega
        gi_wp2_with (gi_at_call 48; refine (itv_in Fence.wide _ trivial rfl _ _ _ _).mono ?_; rintro e w' ⟨rfl, rfl⟩)
        have qB := Row.new wr 23 [.slice a k cap]
        have rV := RW.out.alloc (.cells #[.slice a k cap] 23)
        have bV : Below w.heap.size w (wr.alloc (.cells #[.slice a k cap] 23)) := hB.alloc hzr _
        have sV : (wr.alloc (.cells #[.slice a k cap] 23)).heap.size = wr.heap.size + 1 := by simp
        obtain ⟨V, hV⟩ : ∃ V, V = wr.alloc (.cells #[.slice a k cap] 23) := ⟨_, rfl⟩
        rw [← hV] at qB rV bV sV ⊢
        clear hV
        have cB := qB.cell 0
        simp only [List.getElem?_cons_zero] at cB
        have hsl : ∀ g, g = b ∨ g = wr.heap.size → g < V.heap.size := fun g hg => by rcases hg with rfl | rfl <;> omega
        have hcV : ∀ j, j < k → V.cell? ⟨b, j * 2, none⟩ = some (.int .i64 (rd js j)) ∧ V.cell? ⟨b, j * 2 + 1, none⟩ = some (.int .i64 (rv js j)) := fun j hj =>
          ⟨(bV.cell (p := ⟨b, j * 2, none⟩) hbl).trans (hC.out j (by rw [← hN.out]; exact hj)).1, (bV.cell (p := ⟨b, j * 2 + 1, none⟩) hbl).trans (hC.out j (by rw [← hN.out]; exact hj)).2⟩
        have HSL := hid hsl
        have HRV := hid rV
        have HBV := hid bV
        clear hsl rV qB
        refine wpIn_rangeFunc_ownH rfl hm (gf := 70) (lb := #[.pointer (some ⟨wr.heap.size, 0, none⟩)]) rfl trivial (enters_of Tryz.func70 (by kernel_rfl) rfl)
          (itv_stopsN Fence.wide 7 trivial rfl (by omega) wr.heap.size b k cap js a ha hN.out hle V (by omega) (by omega) cB hcV) KeepB.trans (keepB_b HSL.out) (Below.refl _ _) (fun _ => rfl)
          (fun pre W => (∀ x ∈ pre, rd js x.1 < rd js (x.1 + 1)) ∧ Below V.heap.size V W)
          (fun c pre W => (c = .ret ∧ (∃ j, j + 1 < k ∧ rd js (j + 1) ≤ rd js j) ∧ Row W w.heap.size 4 [.bool false]) ∧ Below w.heap.size w W)
          (OwnFrom.and (Own.from (fun s A B row hs hg hr => hs) _) (ownFrom_below (Nat.le_refl _) (Nat.le_refl _)))
          (fun c => OwnFrom.and (Own.from (fun s A B row hs hg hr => ⟨hs.1, hs.2.1, row_kept hs.2.2 hg hr⟩) _) (ownFrom_below (Nat.le_refl _) (by omega)))
          ⟨by simp, Below.refl _ _⟩
          (fun x a' W => ∃ g, a' = { tmps := #[.slice (some ⟨bS, 0, none⟩) nS capS, .slice a k cap, undef, undef, .pointer (some ⟨w.heap.size, 0, none⟩), undef, u6, undef, .pointer (some ⟨g, 0, none⟩), .slice (some ⟨bS, 0, none⟩) nS capS, .bool true, .bool false, .bool false, .slice a k cap, .int .i64 (k : Int), .bool (decide ((40 : Int) < (k : Int))), .bool (decide ((40 : Int) < (k : Int))), .slice a k cap, .int .i64 (k : Int), .int .i64 (k : Int), .bool false, u21, u22, u23, u24, u25, u26, u27, .slice a k cap, .func (.func 70) #[] #[.pointer (some ⟨wr.heap.size, 0, none⟩)], .int .i64 ((x.1 : Int) + 1), .agg #[.int .i64 (rd js x.1), .int .i64 (rv js x.1), .int .i64 (rd js (x.1 + 1)), .int .i64 (rv js (x.1 + 1))], undef, undef, undef], defers := [] } ∧ Row W g 88 [.int .i64 (rd js x.1), .int .i64 (rv js x.1), .int .i64 (rd js (x.1 + 1)), .int .i64 (rv js (x.1 + 1))])
          (fun x a' => Own.from (fun s A B row hs hg hr => by obtain ⟨g, e, h⟩ := hs; exact ⟨g, e, row_kept h hg hr⟩) _) ?assign ?body ?done ?stop
        case assign =>
          intro l pre x W K hI hK
          have hzI := hI.2.size
          have hAA := hK _ (W.alloc (.cells #[.int .i64 (rd js x.1), .int .i64 (rv js x.1), .int .i64 (rd js (x.1 + 1)), .int .i64 (rv js (x.1 + 1))] 88)) ((KeepsOthers.alloc W _).from _) (keepB_of (box4_bel W _ _ _ _ _) (fun g hg => Nat.lt_of_lt_of_le (HSL.out g hg) hzI)) ⟨hI.1, hI.2.trans ((box4_bel W _ _ _ _ _).mono hzI)⟩ ⟨W.heap.size, rfl, Row.new W _ _⟩
          clear hK
          simp only [itvA]
          gi_wp2
          exact hAA
        case body =>
          rintro l pre x a' W _ _ ⟨hup, hB5⟩ ⟨g, rfl, hrow⟩ _
          have hx := x.2
          have g5 : (Fence.wide.inRound l).fn 49 := trivial
          have o1 := okRd_out (HT.out x.1 (by omega))
          have o2 := okRd_out (HT.out (x.1 + 1) (by omega))
          have hz5 := hB5.size
          have hDD := hid (fun W => days_any (rd js x.1) (rv js x.1) (rd js (x.1 + 1)) (rv js (x.1 + 1)) (by omega) W)
          have HUP := hid hup
          have hxn : x.1 + 1 < k := by omega
          have RX := hid (HRV.out.below hB5 (Nat.lt_of_lt_of_le hl0 (by omega)))
          obtain ⟨p, hp⟩ : ∃ p, rd js x.1 = p := ⟨_, rfl⟩
          obtain ⟨q, hq⟩ : ∃ p, rv js x.1 = p := ⟨_, rfl⟩
          obtain ⟨u, hu⟩ : ∃ p, rd js (x.1 + 1) = p := ⟨_, rfl⟩
          obtain ⟨v, hv⟩ : ∃ p, rv js (x.1 + 1) = p := ⟨_, rfl⟩
          rw [hp, hq, hu, hv] at hDD hrow
          rw [hp, hq] at o1
          rw [hu, hv] at o2
          rw [hp, hq, hu, hv]
          have HPU := hid (And.intro hp hu)
          have c0 := hrow.cell 0
          have c1 := hrow.cell 1
          have c2 := hrow.cell 2
          have c3 := hrow.cell 3
          simp only [List.getElem?_cons_zero, List.getElem?_cons_succ] at c0 c1 c2 c3
          clear hp hq hu hv hup hrow
          by_cases hc : u ≤ p
          · have hd : u - p < 1 := by omega
            gi_wp2_with (gi_at_call 49; refine (CallsIn.inRound l (callsIn_wide.2 (hDD.out _))).mono ?_; rintro e w6 ⟨rfl, hB6⟩; have r6 := RX.out.below hB6 (RX.out.lt); have c6 := r6.cell 0; have f6 := r6.frozen 0; simp only [List.getElem?_cons_zero] at c6)
            exact ⟨((keepsOthers_of hB6).trans (KeepsOthers.setCell _ _ _)).from _, ⟨rfl, ⟨x.1, hxn, by rw [HPU.out.1, HPU.out.2]; exact hc⟩, r6.set 0 (.bool false)⟩, ((HBV.out.trans (hB5.mono (by omega))).trans (hB6.mono (by omega))).setCell (p := ⟨w.heap.size, 0, none⟩) (Nat.le_refl _) _⟩
          · have hd : ¬ u - p < 1 := by omega
            have hd2 : 1 ≤ u - p := by omega
            gi_wp2_with (gi_at_call 49; refine (CallsIn.inRound l (callsIn_wide.2 (hDD.out _))).mono ?_; rintro e w6 ⟨rfl, hB6⟩)
            exact ⟨(keepsOthers_of hB6).from _, keepB_of hB6 (fun g hg => Nat.lt_of_lt_of_le (HSL.out g hg) hz5), ⟨fun y hy => (List.mem_append.1 hy).elim (HUP.out y) (fun e => by simp at e; subst e; rw [HPU.out.1, HPU.out.2]; omega), hB5.trans (hB6.mono hz5)⟩⟩
        case done =>
          rintro D ys W hD rfl ⟨hup, hB5⟩ hK
          have hz5 := hB5.size
          have rW := HRV.out.below hB5 (Nat.lt_of_lt_of_le hl0 (by omega))
          have cW := rW.cell 0
          have fW := rW.frozen 0
          simp only [List.getElem?_cons_zero] at cW
          have hK2 : (W.setCell ⟨w.heap.size, 0, none⟩ (.bool true)).heap[D]? = some (.deferred (some [])) := (Below.heap_setCell W ⟨w.heap.size, 0, none⟩ (.bool true) D (fun e => by simp at e; omega)).trans hK
          have rF := row_kept (rW.set 0 (.bool true)) (grownBy_putObj' _ D (.deferred none)) (fun r e => by cases e; exact ⟨_, hK2, rfl⟩)
          have cF := rF.cell 0
          simp only [List.set_cons_zero, List.getElem?_cons_zero] at cF
          have HG := hid (okG_yes HVV.out (by rw [← hN.out]; omega) (by rw [← hN.out]; exact HT.out) (fun j hj => hup ⟨j, by have := hN.out; omega⟩ (List.mem_finRange _)))
          have bF := hid ((HBV.out.trans (hB5.mono (by omega))).setCell (p := ⟨w.heap.size, 0, none⟩) (Nat.le_refl _) (.bool true))
          clear hup rW rF
          gi_wp2
          refine ⟨by simp, .inl ⟨_, _, rfl, run_takeDeferred hK2, ?_⟩⟩
          exact ⟨.bool true, by simp [results, Tryz.f32, go_sem, cF], by rw [HG.out], bF.out.trans (belowK_b (w := w) (Nat.le_refl _) _ D _ _ (by omega) hK2 rfl rfl)⟩
        case stop =>
          rintro D c pre W hD ⟨j, hj, rfl⟩ ⟨⟨rfl, ⟨q, hq1, hq2⟩, hrow⟩, hB5⟩ hK
          have rF := row_kept hrow (grownBy_putObj' _ D (.deferred none)) (fun r e => by cases e; exact ⟨_, hK, rfl⟩)
          have cF := rF.cell 0
          simp only [List.getElem?_cons_zero] at cF
          gi_wp2
          refine ⟨by simp, .inl ⟨_, _, rfl, run_takeDeferred hK, ?_⟩⟩
          exact ⟨.bool false, by simp [results, Tryz.f32, go_sem, cF], by rw [okG_up q (by rw [← hN.out]; exact hq1) hq2], hB5.trans (belowK_b (w := w) (Nat.le_refl _) _ D _ _ (by omega) hK rfl rfl)⟩
end Go.Proofs.YtcanfcpofihoeaaGreatDoor

namespace Go.Proofs.YtcanfcpofihoeaaGreatDoor
open Go.RowKit Go.Shelf
set_option linter.unusedVariables false
set_option linter.unusedSimpArgs false
theorem okG_nil (zs : List Int) (ho : okL zs = true) : okG zs [] = true := by simp [okG, ho]
theorem l04Ok_nil (bS nS capS : Nat) (zs : List Int) (hnS : nS = zs.length) (ho : okL zs = true) (a : Option Addr) (cap : Nat) (w : World) (hS : Stk w bS zs) : Calls Tryz.prog 17 #[.slice (some ⟨bS, 0, none⟩) nS capS, .slice a 0 cap] w (GivesB w (.bool true)) := by
  have HV := hid (l01Ok_any bS nS capS zs w hS hnS)
  rw [ho] at HV
  clear hS hnS ho
  go_enter Tryz.func17, Tryz.ntmps17
  go_wp2_with fail
  refine HV.out.mono ?_
  rintro e w' ⟨rfl, rfl⟩
  go_wp2_with fail
  refine wp_loop_rounds 1 ?_
  rw [rounds_succ]
  go_wp2_with fail
  go_ret
  exact ⟨rfl, Below.refl _ _⟩
theorem implLGT_nil (bS nS capS : Nat) (zs : List Int) (hnS : nS = zs.length) (ho : okL zs = true) (a : Option Addr) (cap : Nat) (w : World) (hS : Stk w bS zs) : Calls Tryz.prog 21 #[.slice (some ⟨bS, 0, none⟩) nS capS, .slice a 0 cap] w fun e w' => e = .returned (.string ⟨([] : List UInt8).toArray⟩) ∧ Below w.heap.size w w' := by
  have HV := hid (implValidLog_anyN bS nS capS zs hnS bS 0 cap [] a (.inl rfl) rfl w hS ⟨hS.1, (fun j hj => absurd hj (Nat.not_lt_zero _)), Nat.zero_le _⟩)
  rw [okG_nil zs ho] at HV
  clear hS hnS ho
  go_enter Tryz.func21, Tryz.ntmps21
  go_wp2_with fail
  with_reducible refine HV.out.mono ?_
  rintro e w1 ⟨rfl, hB1⟩
  have B1 := hid hB1
  have HBN := hid (BuS.new w1)
  have HBW := hid (show Below w1.heap.size w1 (w1.alloc (.cells #[.pointer none, .slice none 0 0] 67)) from (Below.refl _ _).alloc (Nat.le_refl _) _)
  clear hB1
  go_wp2_with fail
  refine wp_loop_rounds 1 ?_
  rw [rounds_succ]
  have HJ := hid (bstring_any w1.heap.size [] _ HBN.out)
  go_wp2_with (go_at_call 37; refine HJ.out.mono ?_; rintro e w9 ⟨rfl, hB9⟩)
  go_ret
  exact ⟨rfl, B1.out.trans ((HBW.out.trans hB9).mono B1.out.size)⟩
theorem lgR_nil (zs : List Int) : lgR zs [] = [] := by unfold lgR; split <;> rfl
theorem implLGT_own (bS nS capS : Nat) (zs : List Int) (hnS : nS = zs.length) (ho : okL zs = true) (base : Nat) (v : Value) (js : List (Int × Int)) (w : World) (hS : Stk w bS zs) (h : OwnG w base v js) {tS tR : TypeId} {pS pR : Value} {m : Int} (hL : LW w tS pS tR pR m) : Calls Tryz.prog 21 #[.slice (some ⟨bS, 0, none⟩) nS capS, v] w fun e w' => e = .returned (.string ⟨(lgR zs js).toArray⟩) ∧ Below w.heap.size w w' := by
  obtain ⟨a, cap, rfl, hl, h0 | ⟨g, rest, rfl, hg, hr⟩⟩ := h
  · subst h0
    rw [lgR_nil]
    exact implLGT_nil bS nS capS zs hnS ho a cap w hS
  · exact implLGT_any bS nS capS zs hnS g js.length cap js rfl w hS (OwnG.pst hr hl) hL.2.1 hL.2.2
theorem l04Ok_own (bS nS capS : Nat) (zs : List Int) (hnS : nS = zs.length) (ho : okL zs = true) (base : Nat) (v : Value) (js : List (Int × Int)) (w : World) (hS : Stk w bS zs) (h : OwnG w base v js) : Calls Tryz.prog 17 #[.slice (some ⟨bS, 0, none⟩) nS capS, v] w (GivesB w (.bool (okG zs js))) := by
  obtain ⟨a, cap, rfl, hl, h0 | ⟨g, rest, rfl, hg, hr⟩⟩ := h
  · subst h0
    rw [okG_nil zs ho]
    exact l04Ok_nil bS nS capS zs hnS ho a cap w hS
  · exact l04Ok_any bS nS capS zs hnS g js.length cap js rfl w hS (OwnG.pst hr hl)
def RgR (r : List (Int × Int) × Int) (w : World) (e : Ending) (w' : World) : Prop := ∃ v, e = .returned (.tuple #[v, .int .i64 r.2]) ∧ OwnG w' w.heap.size v r.1 ∧ Below w.heap.size w w'
open Classical in
noncomputable def rlR (zs : List Int) (l : List UInt8) : List (Int × Int) × Int := if okL zs then rdR (lgW zs) (okG zs) l else ([], 1)
theorem OwnG.down {w : World} {base base' : Nat} {v : Value} {js : List (Int × Int)} (h : OwnG w base v js) (hb : base' ≤ base) : OwnG w base' v js := by
  obtain ⟨a, cap, e1, e2, h0 | ⟨gg, rest, e4, e5, e6⟩⟩ := h
  · exact ⟨a, cap, e1, e2, .inl h0⟩
  · exact ⟨a, cap, e1, e2, .inr ⟨gg, rest, e4, Nat.le_trans hb e5, e6⟩⟩
theorem okV_zero {zs : List Int} (ho : okL zs = true) : okV zs [0, 0, 0, 0, 0, 0, 0, 0] = true := by
  rw [okV_yes ho]
  obtain ⟨_, h8, hi, _, _⟩ := okL_out ho
  refine okD_of fun k hk => ⟨fun hz => ?_, fun _ => ?_⟩
  · have := hi k hz
    have e : ([0, 0, 0, 0, 0, 0, 0, 0] : List Int)[k]?.getD 0 = 0 := by
      match k, hk with
      | 0, _ | 1, _ | 2, _ | 3, _ | 4, _ | 5, _ | 6, _ | 7, _ => rfl
    rw [e]; omega
  · match k, hk with
    | 0, _ | 1, _ | 2, _ | 3, _ | 4, _ | 5, _ | 6, _ | 7, _ => rfl
theorem RdG.nine {zs : List Int} {l : List UInt8} (ho : okL zs = true) {w : World} {e : Ending} {w' : World} (h : RdG zs l w e w') : ∃ (e0 e1 e2 e3 e4 e5 e6 e7 k : Int), e = .returned (.tuple #[.agg #[.int .u8 e0, .int .u8 e1, .int .u8 e2, .int .u8 e3, .int .u8 e4, .int .u8 e5, .int .u8 e6, .int .u8 e7], .int .i64 k]) ∧ Below w.heap.size w w' ∧ Oct e0 e1 e2 e3 e4 e5 e6 e7 ∧ okV zs [e0, e1, e2, e3, e4, e5, e6, e7] = true ∧ ((Dg zs l [e0, e1, e2, e3, e4, e5, e6, e7] ∧ k = 0) ∨ ((¬ ∃ es, Dg zs l es) ∧ k = 5)) := by
  obtain ⟨ds, c, rfl, hB, ⟨hf, _⟩ | ⟨_, ⟨hd, rfl⟩ | ⟨hn, rfl, rfl⟩⟩⟩ := h
  · rw [ho] at hf; cases hf
  · obtain ⟨e0, e1, e2, e3, e4, e5, e6, e7, rfl⟩ := len8 hd.1
    have a := DgN hd
    have b : ∀ j, j < 8 → ug [e0, e1, e2, e3, e4, e5, e6, e7] j ≤ 255 := fun j hj => by
      obtain ⟨_, h8, hi, _, _⟩ := okL_out ho
      by_cases c : j < zs.length
      · have h1 := (hd.2.2.1 j c).1.2
        have h2 := hi j c
        have h3 : ug zs j = zs[j]?.getD 0 := rfl
        omega
      · have := hd.2.2.2 j (by omega) hj
        omega
    refine ⟨e0, e1, e2, e3, e4, e5, e6, e7, 0, rfl, hB, ?_, hd.valid ho, .inl ⟨hd, rfl⟩⟩
    exact ⟨⟨a 0 (by omega), b 0 (by omega)⟩, ⟨a 1 (by omega), b 1 (by omega)⟩, ⟨a 2 (by omega), b 2 (by omega)⟩, ⟨a 3 (by omega), b 3 (by omega)⟩, ⟨a 4 (by omega), b 4 (by omega)⟩, ⟨a 5 (by omega), b 5 (by omega)⟩, ⟨a 6 (by omega), b 6 (by omega)⟩, ⟨a 7 (by omega), b 7 (by omega)⟩⟩
  · exact ⟨0, 0, 0, 0, 0, 0, 0, 0, 5, rfl, hB, by unfold Oct; decide, okV_zero ho, .inr ⟨hn, rfl⟩⟩
end Go.Proofs.YtcanfcpofihoeaaGreatDoor

namespace Go.Proofs.YtcanfcpofihoeaaGreatDoor
open Go.RowKit Go.Shelf
set_option linter.unusedVariables false
set_option linter.unusedSimpArgs false
theorem p64_yes (p : ByteArray) (hp : p.size ≤ 1048576) {v : Int} (hv : pi64 p.data.toList = some v) (w : World) :
    Calls Tryz.prog 29 #[.string p, .int .i64 10, .int .i64 64] w fun e w' => e = .returned (.tuple #[.int .i64 v, .nilIface]) ∧ Below w.heap.size w w' := by
  refine (Tryz.strconv_ParseInt_10_at64_ok p (by omega) v (pi64_out hv) w).mono ?_
  rintro e w' ⟨rfl, hw⟩
  refine ⟨rfl, ?_⟩
  rcases hw with rfl | ⟨t, rfl⟩
  · exact Below.refl _ _
  · exact Lib.bytesWorld_below _ _ _
theorem p64_no (p : ByteArray) (hp : p.size ≤ 1048576) (hv : pi64 p.data.toList = none) (w : World) {tS tR : TypeId} {pS pR : Value} {m : Int} (h : LV w tS pS tR pR m) :
    Calls Tryz.prog 29 #[.string p, .int .i64 10, .int .i64 64] w fun e w' => ∃ v T q, e = .returned (.tuple #[.int .i64 v, .iface T (.pointer (some q))]) ∧ Below w.heap.size w w' ∧ -9223372036854775808 ≤ v ∧ v ≤ 9223372036854775807 := by
  cases hh : Lib.parseIntB 64 p.data.toList with
  | ok u => unfold pi64 at hv; rw [hh] at hv; cases hv
  | «syntax» =>
    refine (Tryz.strconv_ParseInt_10_at64_syntax_var p (by omega) hh tS pS w h.1.1).mono ?_
    rintro e w' ⟨N, rfl, _, _, hB⟩
    exact ⟨_, _, _, rfl, hB, by omega, by omega⟩
  | range =>
    refine (Tryz.strconv_ParseInt_10_at64_range_var p (by omega) hh tR pR w h.2.1.1).mono ?_
    rintro e w' ⟨N, rfl, _, _, hB⟩
    have hb : -9223372036854775808 ≤ Lib.intSat 64 p.data.toList ∧ Lib.intSat 64 p.data.toList ≤ 9223372036854775807 := by
      unfold Lib.intSat
      split <;> exact ⟨by decide, by decide⟩
    exact ⟨_, _, _, rfl, hB, hb.1, hb.2⟩
end Go.Proofs.YtcanfcpofihoeaaGreatDoor

namespace Go.Proofs.YtcanfcpofihoeaaGreatDoor
open Go.RowKit

/-- eight bytes lie from the head of a block on -/
def Oc (w : World) (g : Nat) (d0 d1 d2 d3 d4 d5 d6 d7 : Int) : Prop :=
  w.cell? ⟨g, 0, none⟩ = some (.int .u8 d0) ∧ w.cell? ⟨g, 1, none⟩ = some (.int .u8 d1) ∧ w.cell? ⟨g, 2, none⟩ = some (.int .u8 d2) ∧ w.cell? ⟨g, 3, none⟩ = some (.int .u8 d3) ∧ w.cell? ⟨g, 4, none⟩ = some (.int .u8 d4) ∧ w.cell? ⟨g, 5, none⟩ = some (.int .u8 d5) ∧ w.cell? ⟨g, 6, none⟩ = some (.int .u8 d6) ∧ w.cell? ⟨g, 7, none⟩ = some (.int .u8 d7)
theorem Oc.below {w w' : World} {g n : Nat} {d0 d1 d2 d3 d4 d5 d6 d7 : Int} (h : Oc w g d0 d1 d2 d3 d4 d5 d6 d7) (hb : Below n w w') (hn : g < n) : Oc w' g d0 d1 d2 d3 d4 d5 d6 d7 :=
  ⟨(hb.cell (p := ⟨g, 0, none⟩) hn).trans h.1, (hb.cell (p := ⟨g, 1, none⟩) hn).trans h.2.1, (hb.cell (p := ⟨g, 2, none⟩) hn).trans h.2.2.1, (hb.cell (p := ⟨g, 3, none⟩) hn).trans h.2.2.2.1,
   (hb.cell (p := ⟨g, 4, none⟩) hn).trans h.2.2.2.2.1, (hb.cell (p := ⟨g, 5, none⟩) hn).trans h.2.2.2.2.2.1, (hb.cell (p := ⟨g, 6, none⟩) hn).trans h.2.2.2.2.2.2.1, (hb.cell (p := ⟨g, 7, none⟩) hn).trans h.2.2.2.2.2.2.2⟩
theorem Oc.new (w : World) (t : TypeId) (d0 d1 d2 d3 d4 d5 d6 d7 : Int) : Oc (w.alloc (.cells #[.int .u8 d0, .int .u8 d1, .int .u8 d2, .int .u8 d3, .int .u8 d4, .int .u8 d5, .int .u8 d6, .int .u8 d7] t)) w.heap.size d0 d1 d2 d3 d4 d5 d6 d7 := by
  have h := (Row.new w t [.int .u8 d0, .int .u8 d1, .int .u8 d2, .int .u8 d3, .int .u8 d4, .int .u8 d5, .int .u8 d6, .int .u8 d7]).cell
  exact ⟨h 0, h 1, h 2, h 3, h 4, h 5, h 6, h 7⟩

end Go.Proofs.YtcanfcpofihoeaaGreatDoor

namespace Go.Proofs.YtcanfcpofihoeaaGreatDoor
open Go.RowKit

/-- what the model has reckoned when the wheels from k on are done -/
def horn (zs ds : List Int) (n k : Nat) (h : Int) : Prop := 0 ≤ h ∧ valL zs ds n = h * szL (zs.take k) + valL zs ds k
theorem horn_bd {zs ds : List Int} {n k : Nat} {h : Int} (H : horn zs ds n k h) (hk : k ≤ n) (hn : n ≤ zs.length) (h8 : zs.length ≤ 8) (hi : inB zs n) (hl : ltTo zs ds n) : h ≤ 10000000000000000 := by
  have a := (szL_bd zs k (by omega) (fun j hj => hi j (by omega))).1
  have b := (valL_bd zs ds k (by omega) (fun j hj => hi j (by omega)) (fun j hj => hl j (by omega))).1
  have c := (valL_bd zs ds n hn hi hl).2
  have d := szL_bd zs n hn hi
  have e := pow_bd n (by omega)
  have f : h * 1 ≤ h * szL (zs.take k) := Int.mul_le_mul_of_nonneg_left a H.1
  have g := H.2
  omega
theorem horn_step {zs ds : List Int} {n k : Nat} {h : Int} (H : horn zs ds n (k + 1) h) (hk : k + 1 ≤ n) (hn : n ≤ zs.length) (hi : inB zs n) (hl : ltTo zs ds n) :
    horn zs ds n k (h * zs[k]?.getD 0 + ds[k]?.getD 0) := by
  have hz := hi k (by omega)
  have hd := hl k (by omega)
  refine ⟨by have := Int.mul_nonneg H.1 (show 0 ≤ zs[k]?.getD 0 by omega); omega, ?_⟩
  rw [H.2, szL_take zs k (by omega)]
  show _ = _
  simp only [valL]
  rw [Int.add_mul, Int.mul_assoc, Int.mul_comm (szL (zs.take k)) (zs[k]?.getD 0)]
  omega
theorem horn_end {zs ds : List Int} {n : Nat} {h : Int} (H : horn zs ds n 0 h) : h = valL zs ds n := by
  have := H.2
  simp [szL, valL] at this
  omega

set_option maxHeartbeats 4000000 in
theorem l01Value_any (b n cap : Nat) (zs : List Int) (d0 d1 d2 d3 d4 d5 d6 d7 : Int) (w : World) (h : Stk w b zs) (hn : n ≤ zs.length) (h8 : zs.length ≤ 8) (hi : inB zs n) (ho : Oct d0 d1 d2 d3 d4 d5 d6 d7)
    (hl : ltTo zs [d0, d1, d2, d3, d4, d5, d6, d7] n) :
    Calls Tryz.prog 16 #[.slice (some ⟨b, 0, none⟩) n cap, .agg #[.int .u8 d0, .int .u8 d1, .int .u8 d2, .int .u8 d3, .int .u8 d4, .int .u8 d5, .int .u8 d6, .int .u8 d7]] w
      fun e w' => e = .returned (.int .i64 (valL zs [d0, d1, d2, d3, d4, d5, d6, d7] n)) ∧ Below w.heap.size w w' := by
  have hO := hid (fun k hk => oct_bd ho k hk)
  have hB0 := fun (o : Obj) => (Below.refl w.heap.size w).alloc (Nat.le_refl _) o
  have hC := hid (fun (o : Obj) => (h.below (hB0 o) h.1).2.1)
  have hB := hid hB0
  have hR := hid ((Row.new w 39 [.int .u8 d0, .int .u8 d1, .int .u8 d2, .int .u8 d3, .int .u8 d4, .int .u8 d5, .int .u8 d6, .int .u8 d7]).cell)
  have HI := hid hi
  have HL := hid hl
  have n8 : n ≤ 8 := by omega
  have HN := hid hn
  have H8 := hid h8
  clear h ho hB0 hi hl hn h8
  go_enter Tryz.func16, Tryz.ntmps16
  go_wp2
  go_loopw [5, 6] (fun s i wr => ∃ (k : Nat) (q : Int), k ≤ n ∧ i = .int .i64 ((k : Int) - 1) ∧ s = .int .i64 q ∧ horn zs [d0, d1, d2, d3, d4, d5, d6, d7] n k q ∧ ∃ t, wr = (w.alloc (.cells #[.int .u8 d0, .int .u8 d1, .int .u8 d2, .int .u8 d3, .int .u8 d4, .int .u8 d5, .int .u8 d6, .int .u8 d7] 39)).drewN t) (fun _ i _ => (intOf i + 1).toNat)
  case atStart => exact ⟨n, 0, Nat.le_refl _, rfl, rfl, ⟨Int.le_refl _, by omega⟩, 0, rfl⟩
  case round =>
    obtain ⟨k, q, hk, rfl, rfl, hH, t, rfl⟩ := hrel
    by_cases hlt : 0 < k
    · obtain ⟨k, rfl⟩ : ∃ j, k = j + 1 := ⟨k - 1, by omega⟩
      have hc := hR.out k
      rw [show ([Value.int .u8 d0, .int .u8 d1, .int .u8 d2, .int .u8 d3, .int .u8 d4, .int .u8 d5, .int .u8 d6, .int .u8 d7] : List Value)[k]? = some (.int .u8 (([d0, d1, d2, d3, d4, d5, d6, d7] : List Int)[k]?.getD 0)) from oct_get d0 d1 d2 d3 d4 d5 d6 d7 k (by omega)] at hc
      have hdb := hO.out k (by omega)
      have hx := hC.out (.cells #[.int .u8 d0, .int .u8 d1, .int .u8 d2, .int .u8 d3, .int .u8 d4, .int .u8 d5, .int .u8 d6, .int .u8 d7] 39) k (by have := HN.out; omega)
      have hzb := HI.out k (by omega)
      have hS := hid (horn_step hH hk HN.out HI.out HL.out)
      have hbd := horn_bd hS.out (by omega) HN.out H8.out HI.out HL.out
      have hq0 := hH.1
      have hqb := horn_bd hH hk HN.out H8.out HI.out HL.out
      clear hH
      obtain ⟨d, hd⟩ : ∃ d, d = ([d0, d1, d2, d3, d4, d5, d6, d7] : List Int)[k]?.getD 0 := ⟨_, rfl⟩
      obtain ⟨z, hz⟩ : ∃ z, z = zs[k]?.getD 0 := ⟨_, rfl⟩
      rw [← hd] at hc hdb hS hbd
      rw [← hz] at hx hzb hS hbd
      clear hd hz
      have q1 : 0 ≤ q * z := Int.mul_nonneg hq0 (by omega)
      have e0 : (((k + 1 : Nat) : Int) - 1) = (k : Int) := by omega
      have w1 : IntKind.i64.wrap z = z := IntWalk.i64_in z (by omega)
      have w2 : IntKind.i64.wrap d = d := IntWalk.i64_in d (by omega)
      have w3 : IntKind.i64.wrap (q * z) = q * z := IntWalk.i64_in _ (by omega)
      have w4 : IntKind.i64.wrap (q * z + d) = q * z + d := IntWalk.i64_in _ (by omega)
      have k0 : (0 : Int) ≤ (k : Int) := by omega
      have kn : (k : Int) < (n : Int) := by omega
      rw [e0]
      go_wp2
      go_quiet (fail)
      clear w1 w2 w3 w4
      go_wp2
      all_goals go_roundw
      case rel => exact ⟨k, q * z + d, by omega, by go_num, rfl, hS.out, _, rfl⟩
      case measure => simp [intOf]
    · obtain rfl : k = 0 := by omega
      have hE := hid (horn_end hH)
      clear hH
      go_wp2
      go_ret
      exact ⟨by rw [← hE.out]; rfl, below_drewN (hB.out _) t⟩

theorem Stk.take {w : World} {b : Nat} {zs : List Int} (h : Stk w b zs) (k : Nat) (hk : k ≤ zs.length) : Stk w b (zs.take k) :=
  ⟨h.1, fun j hj => by
    have hj' : j < k := by simpa using (Nat.lt_min.1 (by simpa using hj)).1
    rw [h.2.1 j (by omega)]; simp [hj'], fun z hz => h.2.2.1 z (List.mem_of_mem_take hz), by simp; have := h.2.2.2; omega⟩
theorem take_take' (zs : List Int) (j k : Nat) (h : j ≤ k) : (zs.take k).take j = zs.take j := by rw [List.take_take, Nat.min_eq_left h]
theorem valL_take (zs ds : List Int) (k : Nat) : ∀ j, j ≤ k → valL (zs.take k) ds j = valL zs ds j
  | 0, _ => rfl
  | j + 1, h => by
    simp only [valL]
    rw [valL_take zs ds k j (by omega), take_take' zs j k (by omega)]
theorem inB_take {zs : List Int} {n k : Nat} (h : inB zs n) (hk : k ≤ n) : inB (zs.take k) k := fun j hj => by
  have := h j (by omega)
  simpa [hj] using this
theorem ltTo_take {zs ds : List Int} {n k : Nat} (h : ltTo zs ds n) (hk : k ≤ n) : ltTo (zs.take k) ds k := fun j hj => by
  have := h j (by omega)
  simpa [hj] using this

/-- impl.value over the first k wheels of a valid stack -/
theorem value_any (b k cap : Nat) (zs : List Int) (d0 d1 d2 d3 d4 d5 d6 d7 : Int) (ho : Oct d0 d1 d2 d3 d4 d5 d6 d7) (hv : okV zs [d0, d1, d2, d3, d4, d5, d6, d7] = true) (hk : k ≤ zs.length) (w : World) (hS : Stk w b zs) :
    Calls Tryz.prog 31 #[.slice (some ⟨b, 0, none⟩) k cap, .agg #[.int .u8 d0, .int .u8 d1, .int .u8 d2, .int .u8 d3, .int .u8 d4, .int .u8 d5, .int .u8 d6, .int .u8 d7]] w fun e W' => e = .returned (.int .i64 (valL zs [d0, d1, d2, d3, d4, d5, d6, d7] k)) ∧ Below w.heap.size w W' := by
  obtain ⟨hv1, hv2⟩ := okV_out hv
  obtain ⟨_, h8, hin, _, _⟩ := okL_out hv1
  have hlt := okD_lt hv2 h8 (fun j hj => (oct_bd ho j hj).1)
  have hlen : k = (zs.take k).length := by simp; omega
  have h := callsIn_wide.1 (value_in Fence.wide 8 trivial trivial trivial rfl (by omega) b k cap (zs.take k) hlen (by omega) (inB_take hin hk) d0 d1 d2 d3 d4 d5 d6 d7 ho w (hS.take k hk))
  rw [vfold_all (zs.take k) [d0, d1, d2, d3, d4, d5, d6, d7] (by omega) (by omega) (inB_take hin hk) (ltTo_take hlt hk), valL_take zs [d0, d1, d2, d3, d4, d5, d6, d7] k k (Nat.le_refl _)] at h
  exact h
theorem l01Value_ok (b k cap : Nat) (zs : List Int) (d0 d1 d2 d3 d4 d5 d6 d7 : Int) (ho : Oct d0 d1 d2 d3 d4 d5 d6 d7) (hv : okV zs [d0, d1, d2, d3, d4, d5, d6, d7] = true) (hk : k ≤ zs.length) (w : World) (hS : Stk w b zs) :
    Calls Tryz.prog 16 #[.slice (some ⟨b, 0, none⟩) k cap, .agg #[.int .u8 d0, .int .u8 d1, .int .u8 d2, .int .u8 d3, .int .u8 d4, .int .u8 d5, .int .u8 d6, .int .u8 d7]] w fun e W' => e = .returned (.int .i64 (valL zs [d0, d1, d2, d3, d4, d5, d6, d7] k)) ∧ Below w.heap.size w W' := by
  obtain ⟨hv1, hv2⟩ := okV_out hv
  obtain ⟨_, h8, hin, _, _⟩ := okL_out hv1
  have hlt := okD_lt hv2 h8 (fun j hj => (oct_bd ho j hj).1)
  exact l01Value_any b k cap zs d0 d1 d2 d3 d4 d5 d6 d7 w hS hk h8 (fun j hj => hin j (by omega)) ho (fun j hj => hlt j (by omega))

def valueR (zs ds : List Int) : Int × Int := if okV zs ds then (valL zs ds zs.length, 0) else (0, 1)
theorem valueR_no {zs ds : List Int} (h : okV zs ds = false) : valueR zs ds = (0, 1) := by simp [valueR, h]
theorem valueR_yes {zs ds : List Int} (h : okV zs ds = true) : valueR zs ds = (valL zs ds zs.length, 0) := by simp [valueR, h]
def lastR (zs ds : List Int) (k : Int) : Int × Int := if okV zs ds then (if 0 ≤ k ∧ k ≤ zs.length then (valL zs ds k.toNat, 0) else (0, 2)) else (0, 1)
theorem lastR_no {zs ds : List Int} (k : Int) (h : okV zs ds = false) : lastR zs ds k = (0, 1) := by simp [lastR, h]
theorem lastR_out {zs ds : List Int} (k : Int) (h : okV zs ds = true) (hk : ¬ (0 ≤ k ∧ k ≤ zs.length)) : lastR zs ds k = (0, 2) := by simp only [lastR, h, if_true, if_neg hk]
theorem lastR_yes {zs ds : List Int} (k : Nat) (h : okV zs ds = true) (hk : k ≤ zs.length) : lastR zs ds (k : Int) = (valL zs ds k, 0) := by
  simp only [lastR, h, if_true]
  rw [if_pos (by omega), Int.toNat_natCast]

end Go.Proofs.YtcanfcpofihoeaaGreatDoor

namespace Go.Proofs.YtcanfcpofihoeaaGreatDoor
open Go.RowKit Go.Shelf
set_option linter.unusedSimpArgs false
set_option linter.unusedVariables false
theorem tvals_snocR (l : List (Int × Int)) (a b : Int) : tvals (l ++ [(a, b)]) = tvals l ++ [.int .i64 a, .int .i64 b] := by
  unfold tvals
  rw [List.length_append, List.length_singleton, show (l.length + 1) * 2 = l.length * 2 + 1 + 1 by omega, numrs_succ, numrs_succ]
  have e1 : numrs (l ++ [(a, b)]) (l.length * 2) = numrs l (l.length * 2) := by
    unfold numrs
    apply List.map_congr_left
    intro i hi
    rw [List.mem_range] at hi
    have h2 : i / 2 < l.length := by omega
    unfold numr rd rv
    rw [List.getElem?_append_left h2]
  rw [e1, numr_even, numr_odd]
  simp [rd, rv]
theorem split_sizeL (sep : ByteArray) (save : Nat) : ∀ (k : Nat) (s p : ByteArray), p ∈ Lib.splitB sep save k s → p.size ≤ s.size
  | 0, s, p, h => by simp [Lib.splitB] at h; subst h; exact Nat.le_refl _
  | k + 1, s, p, h => by
    unfold Lib.splitB at h
    split at h
    · simp at h; subst h; exact Nat.le_refl _
    · simp only [List.mem_cons] at h
      rcases h with rfl | h
      · simp [ByteArray.size_extract]; omega
      · have := split_sizeL sep save k _ p h
        simp [ByteArray.size_extract] at this; omega
theorem take_nextL {ps : List ByteArray} {k : Nat} {p : ByteArray} (h : ps[k]? = some p) : ps.take (k + 1) = ps.take k ++ [p] := by
  have hk : k < ps.length := by
    by_cases c : k < ps.length
    · exact c
    · rw [List.getElem?_eq_none (by omega)] at h; cases h
  rw [List.getElem?_eq_getElem hk] at h
  injection h with h
  rw [List.take_succ_eq_append_getElem hk, h]
theorem owns_belowL {w w' : World} {base size n : Nat} {e : TypeId} {v : Value} {xs : List Value} (h : w.ownsRow base e size v n xs) (hb : Below w.heap.size w w') : w'.ownsRow base e size v n xs := by
  refine ⟨h.1, ?_⟩
  rcases h.2 with h0 | ⟨g, cap, cur, h1, h2, h3, h4⟩
  · exact .inl h0
  · exact .inr ⟨g, cap, cur, h1, h2, (hb.block g (lt_of_block h3)).trans h3, h4⟩
attribute [local go_sem] Oper.semAt_some
theorem owns_baseL {W : World} {base base' n : Nat} {e : TypeId} {sz : Nat} {v : Value} {vs : List Value} (h : W.ownsRow base e sz v n vs) (hb : base' ≤ base) : W.ownsRow base' e sz v n vs := ⟨h.1, by
  rcases h.2 with h | ⟨g, cap, cur, h2, h3, h4⟩
  · exact .inl h
  · exact .inr ⟨g, cap, cur, h2, Nat.le_trans hb h3, h4⟩⟩
def RpG (zs : List Int) (p : ByteArray) (w : World) (e : Ending) (w' : World) : Prop := ∃ x y : Int, e = .returned (.tuple #[.agg #[.int .i64 x, .int .i64 y], .bool (lgF zs p).isSome]) ∧ (∀ a b, lgF zs p = some (a, b) → x = a ∧ y = b) ∧ Below w.heap.size w w'
set_option maxRecDepth 100000 in
set_option maxHeartbeats 4000000 in
theorem implReadReading_any (b n cap : Nat) (zs : List Int) (hn : n = zs.length) (ho : okL zs = true) (p : ByteArray) (hp : p.size ≤ 1048576) (w : World) (hS : Stk w b zs) {tS tR : TypeId} {pS pR : Value} {m : Int} (hL : LW w tS pS tR pR m) : Calls Tryz.prog 20 #[.slice (some ⟨b, 0, none⟩) n cap, .string p] w (RpG zs p w) := by
  have HLW := hid (fun W (h : Below w.heap.size w W) => hL.below h (Nat.le_refl _))
  have HSS := hid (fun W (h : Below w.heap.size w W) => hS.below h hS.1)
  obtain ⟨n1, n2⟩ := cut_lenK p.data.toList [32]
  have hsz : p.data.toList.length = p.size := by rw [Array.length_toList]; rfl
  have HCUT := hid (fun W (h : LW W tS pS tR pR m) => show Calls Tryz.prog 28 #[.string p, .string ⟨#[32]⟩] W fun e w' => e = .returned (.tuple #[.string ⟨(Lib.cut p.data.toList [32]).1.toArray⟩, .string ⟨(Lib.cut p.data.toList [32]).2.1.toArray⟩, .bool (Lib.cut p.data.toList [32]).2.2]) ∧ ∃ n, w' = W.drewN n from Tryz.strings_Cut p ⟨#[32]⟩ m W (by omega) h.1.2.2.1)
  have HRP := hid (show lgF zs p = _ from rfl)
  have hvu : ∀ e0 e1 e2 e3 e4 e5 e6 e7 W, Oct e0 e1 e2 e3 e4 e5 e6 e7 → okV zs [e0, e1, e2, e3, e4, e5, e6, e7] = true → Stk W b zs → Calls Tryz.prog 31 #[.slice (some ⟨b, 0, none⟩) n cap, .agg #[.int .u8 e0, .int .u8 e1, .int .u8 e2, .int .u8 e3, .int .u8 e4, .int .u8 e5, .int .u8 e6, .int .u8 e7]] W fun e W' => e = .returned (.int .i64 (valL zs [e0, e1, e2, e3, e4, e5, e6, e7] zs.length)) ∧ Below W.heap.size W W' := fun e0 e1 e2 e3 e4 e5 e6 e7 W h1 h2 h3 => by
    have := value_any b n cap zs e0 e1 e2 e3 e4 e5 e6 e7 h1 h2 (by omega) W h3
    rw [hn] at this ⊢
    exact this
  have HVU := hid hvu
  unfold lgF at HRP
  obtain ⟨⟨c1, c2, ok⟩, hc⟩ : ∃ c, Lib.cut p.data.toList [32] = c := ⟨_, rfl⟩
  rw [hc] at HCUT HRP n1 n2
  simp only at HCUT HRP n1 n2
  have s1 : (⟨c1.toArray⟩ : ByteArray).size ≤ 1048576 := by show c1.toArray.size ≤ _; simp; omega
  have s2 : (⟨c2.toArray⟩ : ByteArray).size ≤ 1048576 := by show c2.toArray.size ≤ _; simp; omega
  have HRD := hid (fun W (hS : Stk W b zs) (h : LW W tS pS tR pR m) => (implReadDigits_any b n cap zs hn ⟨c2.toArray⟩ s2 W hS h).mono (fun e w' hh => RdG.nine (l := c2) ho hh))
  have HBV := hid (show Below w.heap.size w (w.alloc (.cells #[.int .i64 0, .int .i64 0] 44)) from (Below.refl _ _).alloc (Nat.le_refl _) _)
  have HRV := hid (Row.new w 44 [.int .i64 0, .int .i64 0])
  have HO := hid ho
  unfold RpG
  obtain ⟨R, hR⟩ : ∃ R, lgF zs p = R := ⟨_, rfl⟩
  unfold lgF at hR
  rw [hc] at hR
  simp only at hR
  have HRR := hid hR
  unfold lgF
  rw [hc]
  simp only
  rw [hR]
  clear hR hc hsz n1 n2 hL hp HRP hvu hS hn ho
  cases e1 : pi64 c1 with
  | some v1 =>
    rw [e1] at HRR
    have H1 := hid (fun W => p64_yes ⟨c1.toArray⟩ s1 (v := v1) e1 W)
    simp only at HRR
    obtain ⟨C1, hC1⟩ : ∃ C, (⟨c1.toArray⟩ : ByteArray) = C := ⟨_, rfl⟩
    obtain ⟨C2, hC2⟩ : ∃ C, (⟨c2.toArray⟩ : ByteArray) = C := ⟨_, rfl⟩
    rw [hC1, hC2] at HCUT
    rw [hC1] at H1
    rw [hC2] at HRD
    clear hC1 hC2 s1 s2 e1
    cases ok with
    | true =>
      go_enter Tryz.func20, Tryz.ntmps20
      go_wp2_with fail
      with_reducible refine (HCUT.out _ (HLW.out _ HBV.out)).mono ?_
      rintro e w1 ⟨rfl, d, rfl⟩
      have b1 := below_drewN HBV.out d
      have r1 := HRV.out.below (below_drewN (Below.refl _ _) d) HRV.out.lt
      obtain ⟨W1, hW1⟩ : ∃ X, X = (w.alloc (.cells #[.int .i64 0, .int .i64 0] 44)).drewN d := ⟨_, rfl⟩
      rw [← hW1] at b1 r1 ⊢
      clear hW1
      have B1 := hid b1; have R1 := hid r1
      clear b1 r1
      go_wp2_with fail
      with_reducible refine (H1.out _).mono ?_
      rintro e w2 ⟨rfl, hB⟩
      have B2 := hid (B1.out.trans (hB.mono B1.out.size))
      have R2 := hid (R1.out.below hB R1.out.lt)
      clear hB
      go_wp2_with fail
      with_reducible refine (HRD.out _ (HSS.out _ B2.out) (HLW.out _ B2.out)).mono ?_
      rintro e w4 ⟨e0, e1, e2, e3, e4, e5, e6, e7, k, rfl, hB, hoct, hov, hk⟩
      have bA : Below w4.heap.size w4 (w4.alloc (.cells #[.int .u8 e0, .int .u8 e1, .int .u8 e2, .int .u8 e3, .int .u8 e4, .int .u8 e5, .int .u8 e6, .int .u8 e7] 39)) := (Below.refl _ _).alloc (Nat.le_refl _) _
      have hB2 := hB.trans (bA.mono hB.size)
      have q := B2.out.trans (hB2.mono B2.out.size)
      have r := R2.out.below hB2 R2.out.lt
      have rd := Row.new w4 39 [.int .u8 e0, .int .u8 e1, .int .u8 e2, .int .u8 e3, .int .u8 e4, .int .u8 e5, .int .u8 e6, .int .u8 e7]
      obtain ⟨V5, hV5⟩ : ∃ X, X = w4.alloc (.cells #[.int .u8 e0, .int .u8 e1, .int .u8 e2, .int .u8 e3, .int .u8 e4, .int .u8 e5, .int .u8 e6, .int .u8 e7] 39) := ⟨_, rfl⟩
      have HV5 := hid hV5
      rw [← hV5] at q r rd
      have Q5 := hid q; have R5 := hid r; have RD := hid rd; have HK := hid hk; have HOV := hid hov
      have HVV := hid (HVU.out e0 e1 e2 e3 e4 e5 e6 e7 V5 hoct hov (HSS.out _ q))
      clear hB hB2 bA q r rd hk hV5 hoct hov
      go_upto_region 4 with fail
      rw [← HV5.out]
      have rd := RD.out
      have c0 := rd.cell 0; have c1 := rd.cell 1; have c2 := rd.cell 2; have c3 := rd.cell 3; have c4 := rd.cell 4; have c5 := rd.cell 5; have c6 := rd.cell 6; have c7 := rd.cell 7
      simp only [List.getElem?_cons_zero, List.getElem?_cons_succ] at c0 c1 c2 c3 c4 c5 c6 c7
      clear rd
      obtain ⟨VV, hVV⟩ : ∃ z, valL zs [e0, e1, e2, e3, e4, e5, e6, e7] zs.length = z := ⟨_, rfl⟩
      rw [hVV] at HVV
      have HEV := hid hVV
      clear hVV
      rcases HK.out with ⟨hd, rfl⟩ | ⟨hnd, rfl⟩
      · have HD := hid hd
        clear hd
        clear HK
        go_wp2_with fail
        with_reducible refine HVV.out.mono ?_
        rintro e w6 ⟨rfl, hB⟩
        have b6 := Q5.out.trans (hB.mono Q5.out.size)
        have r6 := R5.out.below hB R5.out.lt
        clear hB c0 c1 c2 c3 c4 c5 c6 c7
        have c0 := r6.cell 0; have c1 := r6.cell 1; have f0 := r6.frozen 0; have f1 := r6.frozen 1
        simp only [List.getElem?_cons_zero, List.getElem?_cons_succ] at c0 c1
        have b5 := (b6.setCell (p := ⟨w.heap.size, 0, none⟩) (Nat.le_refl _) (.int .i64 v1)).setCell (p := ⟨w.heap.size, 1, none⟩) (Nat.le_refl _) (.int .i64 VV)
        have r5 := (r6.set 0 (.int .i64 v1)).set 1 (.int .i64 VV)
        have d0 := r5.cell 0; have d1 := r5.cell 1
        simp only [List.set_cons_zero, List.set_cons_succ, List.getElem?_cons_zero, List.getElem?_cons_succ] at d0 d1
        clear b6 r6 r5
        go_wp2_with fail
        have hres : R = some (v1, valL zs (dgE zs c2) zs.length) := by rw [← HRR.out, if_pos ⟨rfl, _, HD.out⟩]
        refine bodyPost_ret (v := .tuple #[.agg #[.int .i64 v1, .int .i64 VV], .bool true]) (by simp [results, Tryz.results20, go_sem, d0, d1]) rfl ⟨v1, VV, by rw [hres]; rfl, ?_, b5⟩
        intro a b hab
        rw [hres] at hab
        injection hab with hab
        injection hab with ha hb
        refine ⟨ha, ?_⟩
        rw [← hb, dgE_of HO.out HD.out]
        exact HEV.out.symm
      · have HD := hid hnd
        clear hnd
        clear HK
        go_wp2_with fail
        with_reducible refine HVV.out.mono ?_
        rintro e w6 ⟨rfl, hB⟩
        have b6 := Q5.out.trans (hB.mono Q5.out.size)
        have r6 := R5.out.below hB R5.out.lt
        clear hB c0 c1 c2 c3 c4 c5 c6 c7
        have c0 := r6.cell 0; have c1 := r6.cell 1; have f0 := r6.frozen 0; have f1 := r6.frozen 1
        simp only [List.getElem?_cons_zero, List.getElem?_cons_succ] at c0 c1
        have b5 := (b6.setCell (p := ⟨w.heap.size, 0, none⟩) (Nat.le_refl _) (.int .i64 v1)).setCell (p := ⟨w.heap.size, 1, none⟩) (Nat.le_refl _) (.int .i64 VV)
        have r5 := (r6.set 0 (.int .i64 v1)).set 1 (.int .i64 VV)
        have d0 := r5.cell 0; have d1 := r5.cell 1
        simp only [List.set_cons_zero, List.set_cons_succ, List.getElem?_cons_zero, List.getElem?_cons_succ] at d0 d1
        clear b6 r6 r5
        go_wp2_with fail
        have hres : R = none := by rw [← HRR.out, if_neg (fun h => HD.out h.2)]
        refine bodyPost_ret (v := .tuple #[.agg #[.int .i64 v1, .int .i64 VV], .bool false]) (by simp [results, Tryz.results20, go_sem, d0, d1]) rfl ⟨v1, VV, by rw [hres]; rfl, ?_, b5⟩
        intro a b hab
        rw [hres] at hab
        cases hab
    | false =>
      go_enter Tryz.func20, Tryz.ntmps20
      go_wp2_with fail
      with_reducible refine (HCUT.out _ (HLW.out _ HBV.out)).mono ?_
      rintro e w1 ⟨rfl, d, rfl⟩
      have b1 := below_drewN HBV.out d
      have r1 := HRV.out.below (below_drewN (Below.refl _ _) d) HRV.out.lt
      obtain ⟨W1, hW1⟩ : ∃ X, X = (w.alloc (.cells #[.int .i64 0, .int .i64 0] 44)).drewN d := ⟨_, rfl⟩
      rw [← hW1] at b1 r1 ⊢
      clear hW1
      have B1 := hid b1; have R1 := hid r1
      clear b1 r1
      go_wp2_with fail
      with_reducible refine (H1.out _).mono ?_
      rintro e w2 ⟨rfl, hB⟩
      have B2 := hid (B1.out.trans (hB.mono B1.out.size))
      have R2 := hid (R1.out.below hB R1.out.lt)
      clear hB
      go_wp2_with fail
      with_reducible refine (HRD.out _ (HSS.out _ B2.out) (HLW.out _ B2.out)).mono ?_
      rintro e w4 ⟨e0, e1, e2, e3, e4, e5, e6, e7, k, rfl, hB, hoct, hov, hk⟩
      have bA : Below w4.heap.size w4 (w4.alloc (.cells #[.int .u8 e0, .int .u8 e1, .int .u8 e2, .int .u8 e3, .int .u8 e4, .int .u8 e5, .int .u8 e6, .int .u8 e7] 39)) := (Below.refl _ _).alloc (Nat.le_refl _) _
      have hB2 := hB.trans (bA.mono hB.size)
      have q := B2.out.trans (hB2.mono B2.out.size)
      have r := R2.out.below hB2 R2.out.lt
      have rd := Row.new w4 39 [.int .u8 e0, .int .u8 e1, .int .u8 e2, .int .u8 e3, .int .u8 e4, .int .u8 e5, .int .u8 e6, .int .u8 e7]
      obtain ⟨V5, hV5⟩ : ∃ X, X = w4.alloc (.cells #[.int .u8 e0, .int .u8 e1, .int .u8 e2, .int .u8 e3, .int .u8 e4, .int .u8 e5, .int .u8 e6, .int .u8 e7] 39) := ⟨_, rfl⟩
      have HV5 := hid hV5
      rw [← hV5] at q r rd
      have Q5 := hid q; have R5 := hid r; have RD := hid rd; have HK := hid hk; have HOV := hid hov
      have HVV := hid (HVU.out e0 e1 e2 e3 e4 e5 e6 e7 V5 hoct hov (HSS.out _ q))
      clear hB hB2 bA q r rd hk hV5 hoct hov
      go_upto_region 4 with fail
      rw [← HV5.out]
      have rd := RD.out
      have c0 := rd.cell 0; have c1 := rd.cell 1; have c2 := rd.cell 2; have c3 := rd.cell 3; have c4 := rd.cell 4; have c5 := rd.cell 5; have c6 := rd.cell 6; have c7 := rd.cell 7
      simp only [List.getElem?_cons_zero, List.getElem?_cons_succ] at c0 c1 c2 c3 c4 c5 c6 c7
      clear rd
      obtain ⟨VV, hVV⟩ : ∃ z, valL zs [e0, e1, e2, e3, e4, e5, e6, e7] zs.length = z := ⟨_, rfl⟩
      rw [hVV] at HVV
      have HEV := hid hVV
      clear hVV
      rcases HK.out with ⟨hd, rfl⟩ | ⟨hnd, rfl⟩
      · have HD := hid hd
        clear hd
        clear HK
        go_wp2_with fail
        with_reducible refine HVV.out.mono ?_
        rintro e w6 ⟨rfl, hB⟩
        have b6 := Q5.out.trans (hB.mono Q5.out.size)
        have r6 := R5.out.below hB R5.out.lt
        clear hB c0 c1 c2 c3 c4 c5 c6 c7
        have c0 := r6.cell 0; have c1 := r6.cell 1; have f0 := r6.frozen 0; have f1 := r6.frozen 1
        simp only [List.getElem?_cons_zero, List.getElem?_cons_succ] at c0 c1
        have b5 := (b6.setCell (p := ⟨w.heap.size, 0, none⟩) (Nat.le_refl _) (.int .i64 v1)).setCell (p := ⟨w.heap.size, 1, none⟩) (Nat.le_refl _) (.int .i64 VV)
        have r5 := (r6.set 0 (.int .i64 v1)).set 1 (.int .i64 VV)
        have d0 := r5.cell 0; have d1 := r5.cell 1
        simp only [List.set_cons_zero, List.set_cons_succ, List.getElem?_cons_zero, List.getElem?_cons_succ] at d0 d1
        clear b6 r6 r5
        go_wp2_with fail
        have hres : R = none := by rw [← HRR.out, if_neg (fun h => by cases h.1)]
        refine bodyPost_ret (v := .tuple #[.agg #[.int .i64 v1, .int .i64 VV], .bool false]) (by simp [results, Tryz.results20, go_sem, d0, d1]) rfl ⟨v1, VV, by rw [hres]; rfl, ?_, b5⟩
        intro a b hab
        rw [hres] at hab
        cases hab
      · have HD := hid hnd
        clear hnd
        clear HK
        go_wp2_with fail
        with_reducible refine HVV.out.mono ?_
        rintro e w6 ⟨rfl, hB⟩
        have b6 := Q5.out.trans (hB.mono Q5.out.size)
        have r6 := R5.out.below hB R5.out.lt
        clear hB c0 c1 c2 c3 c4 c5 c6 c7
        have c0 := r6.cell 0; have c1 := r6.cell 1; have f0 := r6.frozen 0; have f1 := r6.frozen 1
        simp only [List.getElem?_cons_zero, List.getElem?_cons_succ] at c0 c1
        have b5 := (b6.setCell (p := ⟨w.heap.size, 0, none⟩) (Nat.le_refl _) (.int .i64 v1)).setCell (p := ⟨w.heap.size, 1, none⟩) (Nat.le_refl _) (.int .i64 VV)
        have r5 := (r6.set 0 (.int .i64 v1)).set 1 (.int .i64 VV)
        have d0 := r5.cell 0; have d1 := r5.cell 1
        simp only [List.set_cons_zero, List.set_cons_succ, List.getElem?_cons_zero, List.getElem?_cons_succ] at d0 d1
        clear b6 r6 r5
        go_wp2_with fail
        have hres : R = none := by rw [← HRR.out, if_neg (fun h => by cases h.1)]
        refine bodyPost_ret (v := .tuple #[.agg #[.int .i64 v1, .int .i64 VV], .bool false]) (by simp [results, Tryz.results20, go_sem, d0, d1]) rfl ⟨v1, VV, by rw [hres]; rfl, ?_, b5⟩
        intro a b hab
        rw [hres] at hab
        cases hab
  | none =>
    rw [e1] at HRR
    have H1 := hid (fun W (h : LW W tS pS tR pR m) => p64_no ⟨c1.toArray⟩ s1 e1 W h.1)
    simp only at HRR
    obtain ⟨C1, hC1⟩ : ∃ C, (⟨c1.toArray⟩ : ByteArray) = C := ⟨_, rfl⟩
    obtain ⟨C2, hC2⟩ : ∃ C, (⟨c2.toArray⟩ : ByteArray) = C := ⟨_, rfl⟩
    rw [hC1, hC2] at HCUT
    rw [hC1] at H1
    rw [hC2] at HRD
    clear hC1 hC2 s1 s2 e1
    cases ok with
    | true =>
      go_enter Tryz.func20, Tryz.ntmps20
      go_wp2_with fail
      with_reducible refine (HCUT.out _ (HLW.out _ HBV.out)).mono ?_
      rintro e w1 ⟨rfl, d, rfl⟩
      have b1 := below_drewN HBV.out d
      have r1 := HRV.out.below (below_drewN (Below.refl _ _) d) HRV.out.lt
      obtain ⟨W1, hW1⟩ : ∃ X, X = (w.alloc (.cells #[.int .i64 0, .int .i64 0] 44)).drewN d := ⟨_, rfl⟩
      rw [← hW1] at b1 r1 ⊢
      clear hW1
      have B1 := hid b1; have R1 := hid r1
      clear b1 r1
      go_wp2_with fail
      with_reducible refine (H1.out _ (HLW.out _ B1.out)).mono ?_
      rintro e w2 ⟨x1, T1, q1, rfl, hB, -⟩
      have B2 := hid (B1.out.trans (hB.mono B1.out.size))
      have R2 := hid (R1.out.below hB R1.out.lt)
      clear hB
      go_wp2_with fail
      with_reducible refine (HRD.out _ (HSS.out _ B2.out) (HLW.out _ B2.out)).mono ?_
      rintro e w4 ⟨e0, e1, e2, e3, e4, e5, e6, e7, k, rfl, hB, hoct, hov, hk⟩
      have bA : Below w4.heap.size w4 (w4.alloc (.cells #[.int .u8 e0, .int .u8 e1, .int .u8 e2, .int .u8 e3, .int .u8 e4, .int .u8 e5, .int .u8 e6, .int .u8 e7] 39)) := (Below.refl _ _).alloc (Nat.le_refl _) _
      have hB2 := hB.trans (bA.mono hB.size)
      have q := B2.out.trans (hB2.mono B2.out.size)
      have r := R2.out.below hB2 R2.out.lt
      have rd := Row.new w4 39 [.int .u8 e0, .int .u8 e1, .int .u8 e2, .int .u8 e3, .int .u8 e4, .int .u8 e5, .int .u8 e6, .int .u8 e7]
      obtain ⟨V5, hV5⟩ : ∃ X, X = w4.alloc (.cells #[.int .u8 e0, .int .u8 e1, .int .u8 e2, .int .u8 e3, .int .u8 e4, .int .u8 e5, .int .u8 e6, .int .u8 e7] 39) := ⟨_, rfl⟩
      have HV5 := hid hV5
      rw [← hV5] at q r rd
      have Q5 := hid q; have R5 := hid r; have RD := hid rd; have HK := hid hk; have HOV := hid hov
      have HVV := hid (HVU.out e0 e1 e2 e3 e4 e5 e6 e7 V5 hoct hov (HSS.out _ q))
      clear hB hB2 bA q r rd hk hV5 hoct hov
      go_upto_region 4 with fail
      rw [← HV5.out]
      have rd := RD.out
      have c0 := rd.cell 0; have c1 := rd.cell 1; have c2 := rd.cell 2; have c3 := rd.cell 3; have c4 := rd.cell 4; have c5 := rd.cell 5; have c6 := rd.cell 6; have c7 := rd.cell 7
      simp only [List.getElem?_cons_zero, List.getElem?_cons_succ] at c0 c1 c2 c3 c4 c5 c6 c7
      clear rd
      obtain ⟨VV, hVV⟩ : ∃ z, valL zs [e0, e1, e2, e3, e4, e5, e6, e7] zs.length = z := ⟨_, rfl⟩
      rw [hVV] at HVV
      have HEV := hid hVV
      clear hVV
      rcases HK.out with ⟨hd, rfl⟩ | ⟨hnd, rfl⟩
      · have HD := hid hd
        clear hd
        clear HK
        go_wp2_with fail
        with_reducible refine HVV.out.mono ?_
        rintro e w6 ⟨rfl, hB⟩
        have b6 := Q5.out.trans (hB.mono Q5.out.size)
        have r6 := R5.out.below hB R5.out.lt
        clear hB c0 c1 c2 c3 c4 c5 c6 c7
        have c0 := r6.cell 0; have c1 := r6.cell 1; have f0 := r6.frozen 0; have f1 := r6.frozen 1
        simp only [List.getElem?_cons_zero, List.getElem?_cons_succ] at c0 c1
        have b5 := (b6.setCell (p := ⟨w.heap.size, 0, none⟩) (Nat.le_refl _) (.int .i64 x1)).setCell (p := ⟨w.heap.size, 1, none⟩) (Nat.le_refl _) (.int .i64 VV)
        have r5 := (r6.set 0 (.int .i64 x1)).set 1 (.int .i64 VV)
        have d0 := r5.cell 0; have d1 := r5.cell 1
        simp only [List.set_cons_zero, List.set_cons_succ, List.getElem?_cons_zero, List.getElem?_cons_succ] at d0 d1
        clear b6 r6 r5
        go_wp2_with fail
        have hres : R = none := by rw [← HRR.out, if_pos ⟨rfl, _, HD.out⟩]
        refine bodyPost_ret (v := .tuple #[.agg #[.int .i64 x1, .int .i64 VV], .bool false]) (by simp [results, Tryz.results20, go_sem, d0, d1]) rfl ⟨x1, VV, by rw [hres]; rfl, ?_, b5⟩
        intro a b hab
        rw [hres] at hab
        cases hab
      · have HD := hid hnd
        clear hnd
        clear HK
        go_wp2_with fail
        with_reducible refine HVV.out.mono ?_
        rintro e w6 ⟨rfl, hB⟩
        have b6 := Q5.out.trans (hB.mono Q5.out.size)
        have r6 := R5.out.below hB R5.out.lt
        clear hB c0 c1 c2 c3 c4 c5 c6 c7
        have c0 := r6.cell 0; have c1 := r6.cell 1; have f0 := r6.frozen 0; have f1 := r6.frozen 1
        simp only [List.getElem?_cons_zero, List.getElem?_cons_succ] at c0 c1
        have b5 := (b6.setCell (p := ⟨w.heap.size, 0, none⟩) (Nat.le_refl _) (.int .i64 x1)).setCell (p := ⟨w.heap.size, 1, none⟩) (Nat.le_refl _) (.int .i64 VV)
        have r5 := (r6.set 0 (.int .i64 x1)).set 1 (.int .i64 VV)
        have d0 := r5.cell 0; have d1 := r5.cell 1
        simp only [List.set_cons_zero, List.set_cons_succ, List.getElem?_cons_zero, List.getElem?_cons_succ] at d0 d1
        clear b6 r6 r5
        go_wp2_with fail
        have hres : R = none := by rw [← HRR.out, if_neg (fun h => HD.out h.2)]
        refine bodyPost_ret (v := .tuple #[.agg #[.int .i64 x1, .int .i64 VV], .bool false]) (by simp [results, Tryz.results20, go_sem, d0, d1]) rfl ⟨x1, VV, by rw [hres]; rfl, ?_, b5⟩
        intro a b hab
        rw [hres] at hab
        cases hab
    | false =>
      go_enter Tryz.func20, Tryz.ntmps20
      go_wp2_with fail
      with_reducible refine (HCUT.out _ (HLW.out _ HBV.out)).mono ?_
      rintro e w1 ⟨rfl, d, rfl⟩
      have b1 := below_drewN HBV.out d
      have r1 := HRV.out.below (below_drewN (Below.refl _ _) d) HRV.out.lt
      obtain ⟨W1, hW1⟩ : ∃ X, X = (w.alloc (.cells #[.int .i64 0, .int .i64 0] 44)).drewN d := ⟨_, rfl⟩
      rw [← hW1] at b1 r1 ⊢
      clear hW1
      have B1 := hid b1; have R1 := hid r1
      clear b1 r1
      go_wp2_with fail
      with_reducible refine (H1.out _ (HLW.out _ B1.out)).mono ?_
      rintro e w2 ⟨x1, T1, q1, rfl, hB, -⟩
      have B2 := hid (B1.out.trans (hB.mono B1.out.size))
      have R2 := hid (R1.out.below hB R1.out.lt)
      clear hB
      go_wp2_with fail
      with_reducible refine (HRD.out _ (HSS.out _ B2.out) (HLW.out _ B2.out)).mono ?_
      rintro e w4 ⟨e0, e1, e2, e3, e4, e5, e6, e7, k, rfl, hB, hoct, hov, hk⟩
      have bA : Below w4.heap.size w4 (w4.alloc (.cells #[.int .u8 e0, .int .u8 e1, .int .u8 e2, .int .u8 e3, .int .u8 e4, .int .u8 e5, .int .u8 e6, .int .u8 e7] 39)) := (Below.refl _ _).alloc (Nat.le_refl _) _
      have hB2 := hB.trans (bA.mono hB.size)
      have q := B2.out.trans (hB2.mono B2.out.size)
      have r := R2.out.below hB2 R2.out.lt
      have rd := Row.new w4 39 [.int .u8 e0, .int .u8 e1, .int .u8 e2, .int .u8 e3, .int .u8 e4, .int .u8 e5, .int .u8 e6, .int .u8 e7]
      obtain ⟨V5, hV5⟩ : ∃ X, X = w4.alloc (.cells #[.int .u8 e0, .int .u8 e1, .int .u8 e2, .int .u8 e3, .int .u8 e4, .int .u8 e5, .int .u8 e6, .int .u8 e7] 39) := ⟨_, rfl⟩
      have HV5 := hid hV5
      rw [← hV5] at q r rd
      have Q5 := hid q; have R5 := hid r; have RD := hid rd; have HK := hid hk; have HOV := hid hov
      have HVV := hid (HVU.out e0 e1 e2 e3 e4 e5 e6 e7 V5 hoct hov (HSS.out _ q))
      clear hB hB2 bA q r rd hk hV5 hoct hov
      go_upto_region 4 with fail
      rw [← HV5.out]
      have rd := RD.out
      have c0 := rd.cell 0; have c1 := rd.cell 1; have c2 := rd.cell 2; have c3 := rd.cell 3; have c4 := rd.cell 4; have c5 := rd.cell 5; have c6 := rd.cell 6; have c7 := rd.cell 7
      simp only [List.getElem?_cons_zero, List.getElem?_cons_succ] at c0 c1 c2 c3 c4 c5 c6 c7
      clear rd
      obtain ⟨VV, hVV⟩ : ∃ z, valL zs [e0, e1, e2, e3, e4, e5, e6, e7] zs.length = z := ⟨_, rfl⟩
      rw [hVV] at HVV
      have HEV := hid hVV
      clear hVV
      rcases HK.out with ⟨hd, rfl⟩ | ⟨hnd, rfl⟩
      · have HD := hid hd
        clear hd
        clear HK
        go_wp2_with fail
        with_reducible refine HVV.out.mono ?_
        rintro e w6 ⟨rfl, hB⟩
        have b6 := Q5.out.trans (hB.mono Q5.out.size)
        have r6 := R5.out.below hB R5.out.lt
        clear hB c0 c1 c2 c3 c4 c5 c6 c7
        have c0 := r6.cell 0; have c1 := r6.cell 1; have f0 := r6.frozen 0; have f1 := r6.frozen 1
        simp only [List.getElem?_cons_zero, List.getElem?_cons_succ] at c0 c1
        have b5 := (b6.setCell (p := ⟨w.heap.size, 0, none⟩) (Nat.le_refl _) (.int .i64 x1)).setCell (p := ⟨w.heap.size, 1, none⟩) (Nat.le_refl _) (.int .i64 VV)
        have r5 := (r6.set 0 (.int .i64 x1)).set 1 (.int .i64 VV)
        have d0 := r5.cell 0; have d1 := r5.cell 1
        simp only [List.set_cons_zero, List.set_cons_succ, List.getElem?_cons_zero, List.getElem?_cons_succ] at d0 d1
        clear b6 r6 r5
        go_wp2_with fail
        have hres : R = none := by rw [← HRR.out, if_neg (fun h => by cases h.1)]
        refine bodyPost_ret (v := .tuple #[.agg #[.int .i64 x1, .int .i64 VV], .bool false]) (by simp [results, Tryz.results20, go_sem, d0, d1]) rfl ⟨x1, VV, by rw [hres]; rfl, ?_, b5⟩
        intro a b hab
        rw [hres] at hab
        cases hab
      · have HD := hid hnd
        clear hnd
        clear HK
        go_wp2_with fail
        with_reducible refine HVV.out.mono ?_
        rintro e w6 ⟨rfl, hB⟩
        have b6 := Q5.out.trans (hB.mono Q5.out.size)
        have r6 := R5.out.below hB R5.out.lt
        clear hB c0 c1 c2 c3 c4 c5 c6 c7
        have c0 := r6.cell 0; have c1 := r6.cell 1; have f0 := r6.frozen 0; have f1 := r6.frozen 1
        simp only [List.getElem?_cons_zero, List.getElem?_cons_succ] at c0 c1
        have b5 := (b6.setCell (p := ⟨w.heap.size, 0, none⟩) (Nat.le_refl _) (.int .i64 x1)).setCell (p := ⟨w.heap.size, 1, none⟩) (Nat.le_refl _) (.int .i64 VV)
        have r5 := (r6.set 0 (.int .i64 x1)).set 1 (.int .i64 VV)
        have d0 := r5.cell 0; have d1 := r5.cell 1
        simp only [List.set_cons_zero, List.set_cons_succ, List.getElem?_cons_zero, List.getElem?_cons_succ] at d0 d1
        clear b6 r6 r5
        go_wp2_with fail
        have hres : R = none := by rw [← HRR.out, if_neg (fun h => by cases h.1)]
        refine bodyPost_ret (v := .tuple #[.agg #[.int .i64 x1, .int .i64 VV], .bool false]) (by simp [results, Tryz.results20, go_sem, d0, d1]) rfl ⟨x1, VV, by rw [hres]; rfl, ?_, b5⟩
        intro a b hab
        rw [hres] at hab
        cases hab
def wLs (t : ByteArray) : List ByteArray := (wLn 41 t).dropLast
def RlQ (zs : List Int) (qs : List ByteArray) (w : World) (e : Ending) (w' : World) : Prop := ∃ v ok, e = .returned (.tuple #[v, .bool ok]) ∧ Below w.heap.size w w' ∧ ((ok = true ∧ ∃ xs : List (Int × Int), qs.map (lgF zs) = xs.map some ∧ w'.ownsRow w.heap.size 44 2 v xs.length (tvals xs)) ∨ (ok = false ∧ ∃ p ∈ qs, (lgF zs) p = none))
set_option maxRecDepth 100000 in
set_option maxHeartbeats 4000000 in
theorem implReadLines_any (b nS cap : Nat) (zs : List Int) (hnS : nS = zs.length) (ho : okL zs = true) (t : ByteArray) (ht : t.size ≤ 1048576) (w : World) (hS : Stk w b zs) {tS tR : TypeId} {pS pR : Value} {m : Int} (hL : LW w tS pS tR pR m) : Calls Tryz.prog 19 #[.string t, .int .i64 40, .func (.func 20) #[.slice (some ⟨b, 0, none⟩) nS cap] #[]] w (RlQ zs (wLs t) w) := by
  obtain ⟨i0, hi0, iz0, iz1, iz2⟩ := info_parts Tryz.infoReading
  have HSP := hid (show Calls Tryz.prog 27 #[.string t, .string ⟨#[10]⟩, .int .i64 41] w fun e w' => e = .returned (.slice (some ⟨w.heap.size, 0, none⟩) (wLn 41 t).length (min 41 (t.size + 1))) ∧ w' = w.alloc (.cells (Lib.cellsOf (wLn 41 t) (min 41 (t.size + 1))) 9) from Tryz.strings_SplitN t ⟨#[10]⟩ 41 m w (by omega) hL.1.2.2.1 (by decide) (by omega) (by omega))
  have HSZ := hid (fun p (h : p ∈ wLs t) => Nat.le_trans (split_sizeL _ _ _ _ p (List.dropLast_subset _ h)) ht)
  obtain ⟨h5, h1⟩ := wLn_len 41 t (by omega)
  have h6 : (wLn 41 t).length ≤ min 41 (t.size + 1) := by have := Lib.splitB_length_le ⟨#[10]⟩ 0 (min 41 (t.size + 1) - 1) t; unfold wLn; omega
  have hdl : ∀ k p, (wLs t)[k]? = some p → (wLn 41 t)[k]? = some p := fun k p h => by
    unfold wLs at h
    rw [List.getElem?_dropLast] at h
    split at h
    · exact h
    · cases h
  have hlen : (wLs t).length = (wLn 41 t).length - 1 := by unfold wLs; simp
  have HSS := hid (fun W (h : Below w.heap.size w W) => hS.below h hS.1)
  have HNS := hid hnS; have HOO := hid ho
  have HLV := hid (fun W (h : Below w.heap.size w W) => hL.below h (Nat.le_refl _))
  obtain ⟨qs, hqs⟩ : ∃ qs, wLs t = qs := ⟨_, rfl⟩
  obtain ⟨ps, hps⟩ : ∃ ps, wLn 41 t = ps := ⟨_, rfl⟩
  obtain ⟨cp, hcp⟩ : ∃ cp, min 41 (t.size + 1) = cp := ⟨_, rfl⟩
  rw [hps] at HSP h5 h1 h6 hdl hlen
  rw [hcp] at HSP h6
  rw [hqs] at HSZ hdl hlen ⊢
  obtain ⟨q, hq⟩ : ∃ q, ps.length = q := ⟨_, rfl⟩
  obtain ⟨n, hn⟩ : ∃ n, qs.length = n := ⟨_, rfl⟩
  have hrow := Row.new w 9 (ps.map Value.string ++ List.replicate (cp - ps.length) (Value.string ByteArray.empty))
  have hW : (w.alloc (.cells (ps.map Value.string ++ List.replicate (cp - ps.length) (Value.string ByteArray.empty)).toArray 9)) = w.alloc (.cells (Lib.cellsOf ps cp) 9) := rfl
  rw [hW] at hrow
  have hcl : ∀ k p, qs[k]? = some p → (w.alloc (.cells (Lib.cellsOf ps cp) 9)).cell? ⟨w.heap.size, k, none⟩ = some (.string p) := fun k p h0 => by
    have h := hdl k p h0
    have hk : k < ps.length := by
      by_cases c : k < ps.length
      · exact c
      · rw [List.getElem?_eq_none (by omega)] at h; cases h
    rw [hrow.cell k, List.getElem?_append_left (by simpa using hk), List.getElem?_map, h]
    rfl
  have hlt := hrow.lt
  have hB : Below w.heap.size w (w.alloc (.cells (Lib.cellsOf ps cp) 9)) := (Below.refl _ _).alloc (Nat.le_refl _) _
  rw [hq] at HSP h5 h1 h6 hlen
  rw [hn] at hlen
  have HM := hid hn; have HQ := hid (show q = n + 1 by omega)
  have a1 : IntKind.i64.wrap ((q : Int) - 1) = (n : Int) := by rw [IntWalk.i64_in _ (by omega)]; omega
  have a2 : (0 : Int) ≤ (n : Int) := by omega
  have a3 : (n : Int) ≤ (cp : Int) := by omega
  have a4 : (q : Int) - 1 = (n : Int) := by omega
  have hn60 : n ≤ 40 := by omega
  have hncp : n ≤ cp := by omega
  clear hn hps hcp hqs hW hrow hL ht hS hnS ho hdl hlen h6 hq
  go_enter Tryz.func19, Tryz.ntmps19
  go_wp2_with fail
  with_reducible refine HSP.out.mono ?_
  rintro e w1 ⟨rfl, rfl⟩
  obtain ⟨W1, hW1⟩ : ∃ X, X = w.alloc (.cells (Lib.cellsOf ps cp) 9) := ⟨_, rfl⟩
  rw [← hW1] at hcl hlt hB ⊢
  have HCL := hid hcl; have HLT := hid hlt; have HB := hid hB; have HZ := hid hB.size
  clear hW1 hcl hlt hB HSP
  go_wp2_with fail
  go_loopw [8, 24] (fun s8 i wr => ∃ (k : Nat) (v : Value) (xs : List (Int × Int)), k ≤ n ∧ i = .int .i64 k ∧ v = s8 ∧ (qs.take k).map (lgF zs) = xs.map some ∧ xs.length = k ∧ wr.ownsRow W1.heap.size 44 2 v k (tvals xs) ∧ Below W1.heap.size W1 wr) (fun _ i _ => n - (intOf i).toNat)
  case atStart => exact ⟨0, _, [], Nat.zero_le _, rfl, rfl, rfl, rfl, ⟨rfl, .inl ⟨rfl, rfl⟩⟩, Below.refl _ _⟩
  case round =>
    obtain ⟨k, v, xs, hk, rfl, rfl, hA, hxl, hO, hB⟩ := hrel
    by_cases hkn : k < n
    · have k1 : (k : Int) < (n : Int) := by omega
      have k0 : (0 : Int) ≤ (k : Int) := by omega
      have w1' : IntKind.i64.wrap ((k : Int) + 1) = (k : Int) + 1 := IntWalk.i64_in _ (by omega)
      have hkl : k < qs.length := by rw [HM.out]; exact hkn
      have hpk : qs[k]? = some qs[k] := List.getElem?_eq_getElem hkl
      obtain ⟨p, hp⟩ : ∃ p, qs[k] = p := ⟨_, rfl⟩
      rw [hp] at hpk
      have hmem : p ∈ qs := List.mem_of_getElem? hpk
      have hcell : wr.cell? ⟨w.heap.size, k, none⟩ = some (.string p) := (hB.cell (p := ⟨w.heap.size, k, none⟩) HLT.out).trans (HCL.out k _ hpk)
      have HBR := hid (HB.out.trans (hB.mono HZ.out))
      have HRP := hid (implReadReading_any b nS cap zs HNS.out HOO.out p (HSZ.out p hmem) wr (HSS.out wr HBR.out) (HLV.out wr HBR.out))
      have HPK := hid hpk; have HO := hid hO; have HB3 := hid hB; have HA := hid hA; have HXL := hid hxl; have HMEM := hid hmem
      have hz1 := hB.size
      clear hA hO hB hpk hp hkl hxl hmem
      cases hr : (lgF zs) p with
      | none =>
        unfold RpG at HRP
        rw [hr] at HRP
        have HR := hid hr
        clear hr
        go_wp2_with fail
        with_reducible refine HRP.out.mono ?_
        rintro e w2 ⟨x, y, rfl, hxy, hB2⟩
        have HB4 := hid (HBR.out.trans (hB2.mono HBR.out.size))
        have HB5 := hid (HB4.out.alloc HB4.out.size (.cells #[.int .i64 x, .int .i64 y] 44))
        clear hxy hB2
        simp only [Option.isSome_none]
        go_wp2_with fail
        exact bodyPost_ret (v := .tuple #[.slice none 0 0, .bool false]) (by simp [results, Tryz.results19, go_sem]) rfl ⟨_, _, rfl, HB5.out, .inr ⟨rfl, p, HMEM.out, HR.out⟩⟩
      | some ab =>
        obtain ⟨a, c⟩ := ab
        have HSN := hid (show (qs.take (k + 1)).map (lgF zs) = (xs ++ [(a, c)]).map some from by rw [take_nextL HPK.out, List.map_append, HA.out, List.map_append]; simp [hr])
        unfold RpG at HRP
        rw [hr] at HRP
        clear hr
        go_wp2_with fail
        with_reducible refine HRP.out.mono ?_
        rintro e w2 ⟨x, y, rfl, hxy, hB2⟩
        obtain ⟨rfl, rfl⟩ := hxy a c rfl
        have HB5 := hid (HB3.out.trans (hB2.mono hz1))
        have HO4 := hid (((owns_belowL HO.out hB2).alloc (.cells #[.int .i64 x, .int .i64 y] 44)).alloc (.cells #[.int .i64 x, .int .i64 y] 44))
        have news := Row.new (w2.alloc (.cells #[.int .i64 x, .int .i64 y] 44)) 44 [.int .i64 x, .int .i64 y]
        have nc := hid (show ∀ j u, ([.int .i64 x, .int .i64 y] : List Value)[j]? = some u → ((w2.alloc (.cells #[.int .i64 x, .int .i64 y] 44)).alloc (.cells #[.int .i64 x, .int .i64 y] 44)).cell? ((⟨w2.heap.size + 1, 0, none⟩ : Addr).add j) = some u from fun j u hj => by
          rw [show (⟨w2.heap.size + 1, 0, none⟩ : Addr).add j = ⟨w2.heap.size + 1, j, none⟩ from by unfold Addr.add; split <;> simp_all]
          have := (news.cell j).trans hj
          simpa only [World.size_alloc] using this)
        have HONE := hid (show ∀ u ∈ ([.int .i64 x, .int .i64 y] : List Value), u.oneCell' = true from by intro u hu; simp at hu; rcases hu with rfl | rfl <;> rfl)
        have HB7 := hid (show Below W1.heap.size W1 ((w2.alloc (.cells #[.int .i64 x, .int .i64 y] 44)).alloc (.cells #[.int .i64 x, .int .i64 y] 44)) from (HB5.out.alloc HB5.out.size _).alloc (by have := HB5.out.size; simp; omega) _)
        have HBW := hid (show W1.heap.size ≤ ((w2.alloc (.cells #[.int .i64 x, .int .i64 y] 44)).alloc (.cells #[.int .i64 x, .int .i64 y] 44)).heap.size by simp; have := HB5.out.size; omega)
        simp only [Option.isSome_some]
        clear news hxy hB2
        go_wp2_with (at_builtin; refine wpList_append_own _ rfl _ _ 23 rfl W1.heap.size 44 i0 (.agg #[.int .i64 0, .int .i64 0]) 2 16 Tryz.underlying23 hi0 iz0 iz1 iz2 rfl (by decide) _ _ _ rfl HO4.out ⟨w2.heap.size + 1, 0, none⟩ 1 1 ([.int .i64 x, .int .i64 y] : List Value) rfl rfl nc.out HONE.out (by unfold maxLen; omega) (by omega) HBW.out ?_; rintro v' w7 hown' hgrow -; have OWN := hid hown'; have GRW := hid hgrow; clear hown' hgrow)
        have bel := HB7.out.grown GRW.out HBW.out (fun kk e => by have := (HO4.out.lt kk e).1; omega)
        have OW := OWN.out
        rw [show tvals xs ++ [.int .i64 x, .int .i64 y] = tvals (xs ++ [(x, y)]) from (tvals_snocR xs x y).symm] at OW
        have HOW := hid OW
        have HBE := hid bel
        clear bel OW
        go_wp2_with fail
        go_roundw
        case rel => exact ⟨k + 1, v', xs ++ [(x, y)], by omega, by go_num, rfl, HSN.out, by simp [HXL.out], HOW.out, HBE.out⟩
        case measure => simp [intOf]; omega
    · obtain rfl : k = n := by omega
      have kf : ¬ (k : Int) < (k : Int) := by omega
      rw [List.take_of_length_le (by rw [HM.out]; exact Nat.le_refl _)] at hA
      have HA := hid hA; have HO := hid hO; have HXL := hid hxl
      have HB2 := hid (HB.out.trans (hB.mono HZ.out))
      clear hA hO hB hxl
      go_wp2_with fail
      refine bodyPost_ret (v := .tuple #[v, .bool true]) (by simp [results, Tryz.results19, go_sem]) rfl ⟨v, true, rfl, HB2.out, .inl ⟨rfl, xs, HA.out, ?_⟩⟩
      rw [HXL.out]
      exact owns_baseL HO.out HZ.out
end Go.Proofs.YtcanfcpofihoeaaGreatDoor

namespace Go.Proofs.YtcanfcpofihoeaaGreatDoor
open Go.RowKit
set_option linter.unusedVariables false
set_option linter.unusedSimpArgs false
def DgTo (zs : List Int) (ps : List (List UInt8)) (L : List Int) (k : Nat) : Prop := (∀ j, j < k → (0 ≤ ug L j ∧ ug L j < ug zs j) ∧ ps[zs.length - 1 - j]? = some (dgT (ug zs j) (ug L j))) ∧ (∀ j, k ≤ j → j < 8 → ug L j = 0)
theorem ug_set (L : List Int) (k j : Nat) (v : Int) (hk : k < L.length) : ug (L.set k v) j = if j = k then v else ug L j := by
  unfold ug
  rw [List.getElem?_set]
  by_cases h : k = j
  · subst h; simp [hk]
  · rw [if_neg h, if_neg (fun e => h e.symm)]
theorem DgTo_step {zs : List Int} {ps : List (List UInt8)} {L : List Int} {k : Nat} {v : Int} (h : DgTo zs ps L k) (hL : L.length = 8) (hk : k < 8) (hv : 0 ≤ v ∧ v < ug zs k) (hp : ps[zs.length - 1 - k]? = some (dgT (ug zs k) v)) : DgTo zs ps (L.set k v) (k + 1) := by
  refine ⟨fun j hj => ?_, fun j hj hj8 => ?_⟩
  · rw [ug_set _ _ _ _ (by omega)]
    by_cases e : j = k
    · subst e; rw [if_pos rfl]; exact ⟨hv, hp⟩
    · rw [if_neg e]; exact h.1 j (by omega)
  · rw [ug_set _ _ _ _ (by omega), if_neg (by omega)]
    exact h.2 j (by omega) hj8
theorem dg_word {zs : List Int} {l : List UInt8} {es : List Int} (ho : okL zs = true) (h : Dg zs l es) {k : Nat} (hk : k < zs.length) {p : List UInt8} (hp : (spl 58 l)[zs.length - 1 - k]? = some p) : p.take 3 = p ∧ p.all digB = true ∧ (numV p : Int) < ug zs k ∧ dgT (ug zs k) (numV p) = p := by
  obtain ⟨h1, h8, hz⟩ := okL_mem ho
  have hzb : 2 ≤ ug zs k ∧ ug zs k ≤ 100 := by unfold ug; rw [List.getElem?_eq_getElem hk]; exact hz _ (List.getElem_mem _)
  have a := h.2.2.1 k hk
  have e := hp.symm.trans a.2
  injection e with e
  obtain ⟨f1, f2, f3, f4⟩ := dgT_facts _ _ hzb a.1
  rw [← e] at f1 f3 f4
  refine ⟨List.take_of_length_le (by omega), f3, by rw [f4]; exact a.1.2, by rw [f4]; exact e.symm⟩
/-- what l01Read gives -/
def LrG (zs : List Int) (l : List UInt8) (w : World) (e : Ending) (w' : World) : Prop := ∃ (ds : List Int) (ok : Bool), e = .returned (.tuple #[.agg (ds.map (Value.int .u8)).toArray, .bool ok]) ∧ Below w.heap.size w w' ∧ ((ok = true ∧ Dg zs l ds) ∨ (ok = false ∧ ds = [0, 0, 0, 0, 0, 0, 0, 0] ∧ ¬ ∃ es, Dg zs l es))
theorem ownsS_row {w : World} {base : Nat} {v : Value} {ss : List ByteArray} (h : OwnS' w base v ss) (hn : 1 ≤ ss.length) : ∃ g cp rest, v = .slice (some ⟨g, 0, none⟩) ss.length cp ∧ base ≤ g ∧ Row w g 9 (ss.map Value.string ++ rest) := by
  unfold OwnS' at h
  rcases h.2 with ⟨_, h2⟩ | ⟨g, cap, cur, h2, h3, h4, h5, h6, h7, h8⟩
  · omega
  · subst h2
    refine ⟨g, cap, cur.toList.drop (ss.length * 1), rfl, h3, ?_⟩
    unfold Row
    rw [h4, ← h8, List.take_append_drop]
theorem not_ex {P : List Int → Prop} (h : ∀ es, P es → False) : ¬ ∃ es, P es := fun ⟨es, he⟩ => h es he
set_option maxRecDepth 100000 in
set_option maxHeartbeats 8000000 in
theorem l01Read_any (b n cap : Nat) (zs : List Int) (hn : n = zs.length) (hok : okL zs = true) (t : ByteArray) (ht : t.size ≤ 1048576) (w : World) (hS : Stk w b zs) :
    Calls Tryz.prog 25 #[.slice (some ⟨b, 0, none⟩) n cap, .string t] w (LrG zs t.data.toList w) := by
  obtain ⟨h1n, h8n, hzs⟩ := okL_mem hok
  rw [← hn] at h1n h8n
  obtain ⟨l, hl⟩ : ∃ l, t.data.toList = l := ⟨_, rfl⟩
  have hsz : t.size = l.length := by rw [← hl, Array.length_toList]; rfl
  have HSP := hid (fun W => l01Split_any t ht 58 58 (by decide) W)
  rw [hl] at HSP ⊢
  have hml := fun p hp => spl_mem_len (c := 58) (l := l) (p := p) hp
  have hsum := spl_sum 58 l
  have HW := hid (fun es (h : Dg zs l es) k (hk : k < zs.length) p hp => dg_word hok h hk (p := p) hp)
  have HLN := hid (fun es (h : Dg zs l es) => h.2.1)
  have HMK := hid (fun L (hL : List.length L = 8) (hl2 : (spl 58 l).length = zs.length) (h : DgTo zs (spl 58 l) L zs.length) => show Dg zs l L from ⟨hL, hl2, h.1, h.2⟩)
  have hne := spl_ne 58 l
  obtain ⟨ps, hps⟩ : ∃ ps, spl 58 l = ps := ⟨_, rfl⟩
  rw [hps] at HSP HW HLN HMK hml hsum hne
  have hm1 : 1 ≤ ps.length := by cases ps with | nil => exact absurd rfl hne | cons => simp
  have HML := hid (show ∀ p ∈ ps, p.length ≤ 1048576 from fun p hp => by have := hml p hp; omega)
  obtain ⟨m, hm⟩ : ∃ m, ps.length = m := ⟨_, rfl⟩
  have hmb : m ≤ 1048577 := by omega
  rw [hm] at HLN HMK hm1
  have HM := hid hm; have HN := hid hn
  have HZS := hid (show ∀ j, j < n → 2 ≤ ug zs j ∧ ug zs j ≤ 100 from fun j hj => by unfold ug; rw [List.getElem?_eq_getElem (by rw [← HN.out]; exact hj)]; exact hzs _ (List.getElem_mem _))
  obtain ⟨R, hR⟩ : ∃ R, w.heap.size = R := ⟨_, rfl⟩
  have bR : Below R w (w.alloc (.cells #[.int .u8 0, .int .u8 0, .int .u8 0, .int .u8 0, .int .u8 0, .int .u8 0, .int .u8 0, .int .u8 0] 39)) := by rw [← hR]; exact (Below.refl _ _).alloc (Nat.le_refl _) _
  have rR := Row.new w 39 [.int .u8 0, .int .u8 0, .int .u8 0, .int .u8 0, .int .u8 0, .int .u8 0, .int .u8 0, .int .u8 0]
  rw [hR] at rR
  have HBR := hid bR; have HRR0 := hid rR; have HRR := hid hR; have HS := hid hS
  have HRB := hid (Nat.le_refl R)
  have hbR : b < R := by rw [← hR]; exact hS.1
  clear hS hn bR rR hl hsz ht hml hsum hps hne hm hzs hok
  go_enter Tryz.func25, Tryz.ntmps25
  go_wp2_with fail
  refine (HSP.out _).mono ?_
  rintro e v1 ⟨v, rfl, hO, hB1⟩
  obtain ⟨g, cp, rst, rfl, hg, hRW⟩ := ownsS_row hO (by rw [bas_len, HM.out]; exact hm1)
  rw [bas_len, HM.out]
  simp only [World.size_alloc] at hB1
  have b1 := HBR.out.trans (show Below R _ v1 from hB1.mono (by have := HRR.out; omega))
  have rR1 := HRR0.out.below hB1 (by have := HRR.out; omega)
  have hz1 : R + 1 ≤ v1.heap.size := by have h1 := hB1.size; have h2 := HRR.out; simp only [World.size_alloc] at h1; omega
  have b2 := b1.alloc (show R ≤ v1.heap.size by omega) (.cells #[.int .u8 0, .int .u8 0, .int .u8 0, .int .u8 0, .int .u8 0, .int .u8 0, .int .u8 0, .int .u8 0] 39)
  have rD := Row.new v1 39 [.int .u8 0, .int .u8 0, .int .u8 0, .int .u8 0, .int .u8 0, .int .u8 0, .int .u8 0, .int .u8 0]
  have rR2 := rR1.alloc (.cells #[.int .u8 0, .int .u8 0, .int .u8 0, .int .u8 0, .int .u8 0, .int .u8 0, .int .u8 0, .int .u8 0] 39)
  have rW2 := hRW.alloc (.cells #[.int .u8 0, .int .u8 0, .int .u8 0, .int .u8 0, .int .u8 0, .int .u8 0, .int .u8 0, .int .u8 0] 39)
  obtain ⟨D, hD⟩ : ∃ D, v1.heap.size = D := ⟨_, rfl⟩
  have hgD : g < D := by rw [← hD]; exact hRW.lt
  rw [hD] at rD hz1
  have hgR : R < g := by have h1 := hg; have h2 := HRR.out; simp only [World.size_alloc] at h1; omega
  obtain ⟨V, hV⟩ : ∃ V, V = v1.alloc (.cells #[.int .u8 0, .int .u8 0, .int .u8 0, .int .u8 0, .int .u8 0, .int .u8 0, .int .u8 0, .int .u8 0] 39) := ⟨_, rfl⟩
  rw [← hV] at b2 rD rR2 rW2
  have hVz : D < V.heap.size := by rw [hV]; simp; omega
  have HBV := hid b2; have HDV := hid rD; have HRV := hid rR2; have HWV := hid rW2; have HVV := hid hV; have HVZ := hid hVz
  have t1 : IntKind.i64.wrap ((n : Int) - 1) = (n : Int) - 1 := IntWalk.i64_in _ (by omega)
  clear hO hB1 hRW b1 rR1 b2 rD rR2 rW2 hV hVz hg HSP
  by_cases hmn : m = n
  rotate_left
  · have hmn1 : ((m : Int) != (n : Int)) = true := by simp; omega
    have hmn2 : ¬ (m : Int) = (n : Int) := by omega
    have HNO := hid (not_ex (fun es he => hmn (by rw [HN.out]; exact HLN.out es he)))
    have r1 := HRV.out
    have b9 := HBV.out
    have rd := HDV.out
    have c0 := rd.cell 0; have c1 := rd.cell 1; have c2 := rd.cell 2; have c3 := rd.cell 3; have c4 := rd.cell 4; have c5 := rd.cell 5; have c6 := rd.cell 6; have c7 := rd.cell 7
    simp only [List.getElem?_cons_zero, List.getElem?_cons_succ] at c0 c1 c2 c3 c4 c5 c6 c7
    clear rd
    go_upto_region 3 with fail
    rw [← HVV.out]
    have g0 := r1.cell 0; have k0 := r1.frozen 0; have g1 := r1.cell 1; have k1 := r1.frozen 1; have g2 := r1.cell 2; have k2 := r1.frozen 2; have g3 := r1.cell 3; have k3 := r1.frozen 3; have g4 := r1.cell 4; have k4 := r1.frozen 4; have g5 := r1.cell 5; have k5 := r1.frozen 5; have g6 := r1.cell 6; have k6 := r1.frozen 6; have g7 := r1.cell 7; have k7 := r1.frozen 7
    simp only [List.getElem?_cons_zero, List.getElem?_cons_succ] at g0 g1 g2 g3 g4 g5 g6 g7
    have r2 := hid (r1.set8 rfl (.int .u8 0) (.int .u8 0) (.int .u8 0) (.int .u8 0) (.int .u8 0) (.int .u8 0) (.int .u8 0) (.int .u8 0))
    have b2 := hid (below_set8 (g := R) b9 HRB.out (.int .u8 0) (.int .u8 0) (.int .u8 0) (.int .u8 0) (.int .u8 0) (.int .u8 0) (.int .u8 0) (.int .u8 0))
    clear r1
    go_wp2_with fail
    clear g0 g1 g2 g3 g4 g5 g6 g7 k0 k1 k2 k3 k4 k5 k6 k7 c0 c1 c2 c3 c4 c5 c6 c7
    obtain ⟨W, hW⟩ : ∃ W, W = ((((((((V.setCell ⟨R, 0, none⟩ (.int .u8 0)).setCell ⟨R, 1, none⟩ (.int .u8 0)).setCell ⟨R, 2, none⟩ (.int .u8 0)).setCell ⟨R, 3, none⟩ (.int .u8 0)).setCell ⟨R, 4, none⟩ (.int .u8 0)).setCell ⟨R, 5, none⟩ (.int .u8 0)).setCell ⟨R, 6, none⟩ (.int .u8 0)).setCell ⟨R, 7, none⟩ (.int .u8 0)) := ⟨_, rfl⟩
    rw [← hW] at r2 b2 ⊢
    clear hW
    have r2 := r2.out
    have g0 := r2.cell 0; have g1 := r2.cell 1; have g2 := r2.cell 2; have g3 := r2.cell 3; have g4 := r2.cell 4; have g5 := r2.cell 5; have g6 := r2.cell 6; have g7 := r2.cell 7
    simp only [List.getElem?_cons_zero, List.getElem?_cons_succ] at g0 g1 g2 g3 g4 g5 g6 g7
    exact bodyPost_ret (v := .tuple #[.agg #[.int .u8 0, .int .u8 0, .int .u8 0, .int .u8 0, .int .u8 0, .int .u8 0, .int .u8 0, .int .u8 0], .bool false]) (by simp [results, Tryz.results25, go_sem, g0, g1, g2, g3, g4, g5, g6, g7]) rfl ⟨[0, 0, 0, 0, 0, 0, 0, 0], false, rfl, by rw [HRR.out]; exact b2.out, .inr ⟨rfl, rfl, HNO.out⟩⟩
  · subst hmn
    have hmn1 : ((m : Int) != (m : Int)) = false := by simp
    go_upto_region 3 with fail
    rw [← HVV.out]
    go_wp2_with fail
    have HWC := hid HWV.out
    go_loopw [8] (fun i wr => ∃ (k : Nat) (L : List Int), k ≤ m ∧ i = .int .i64 k ∧ L.length = 8 ∧ (∀ z ∈ L, 0 ≤ z ∧ z ≤ 255) ∧ DgTo zs ps L k ∧ Row wr D 39 (L.map (Value.int .u8)) ∧ Row wr R 39 [.int .u8 0, .int .u8 0, .int .u8 0, .int .u8 0, .int .u8 0, .int .u8 0, .int .u8 0, .int .u8 0] ∧ Row wr g 9 ((bas ps).map Value.string ++ rst) ∧ Below R w wr ∧ D < wr.heap.size) (fun i _ => m - (intOf i).toNat)
    case atStart => exact ⟨0, [0, 0, 0, 0, 0, 0, 0, 0], Nat.zero_le _, rfl, rfl, by decide, ⟨fun j hj => by omega, fun j _ hj => by match j, hj with | 0, _ | 1, _ | 2, _ | 3, _ | 4, _ | 5, _ | 6, _ | 7, _ => rfl⟩, HDV.out, HRV.out, HWV.out, HBV.out, HVZ.out⟩
    case round =>
      obtain ⟨k, L, hk, rfl, hL8, hLb, hTo, hD, hRr, hWr, hB, hDz⟩ := hrel
      obtain ⟨wo, rfl⟩ : ∃ z, z = wr := ⟨_, rfl⟩
      have HL8 := hid hL8; have HLB := hid hLb; have HTO := hid hTo; have HDw := hid hD; have HRw := hid hRr; have HWw := hid hWr; have HBw := hid hB; have HDz := hid hDz
      clear hL8 hLb hTo hD hRr hWr hB hDz
      by_cases hkn : k < m
      · have k1 : (k : Int) < (m : Int) := by omega
        have k0 : (0 : Int) ≤ (k : Int) := by omega
        obtain ⟨q, hq⟩ : ∃ q, m - 1 - k = q := ⟨_, rfl⟩
        have hqm : q < m := by omega
        have t2 : IntKind.i64.wrap ((m : Int) - 1 - (k : Int)) = (q : Int) := by rw [show (m : Int) - 1 - (k : Int) = (q : Int) by omega]; exact IntWalk.i64_in _ (by omega)
        have q0 : (0 : Int) ≤ (q : Int) := by omega
        have q1 : (q : Int) < (m : Int) := by omega
        have w1' : IntKind.i64.wrap ((k : Int) + 1) = (k : Int) + 1 := IntWalk.i64_in _ (by omega)
        have hpq : ps[q]? = some (ps[q]'(by rw [HM.out]; exact hqm)) := List.getElem?_eq_getElem _
        obtain ⟨p, hp⟩ : ∃ p, ps[q]'(by rw [HM.out]; exact hqm) = p := ⟨_, rfl⟩
        rw [hp] at hpq
        have hpl := HML.out p (List.mem_of_getElem? hpq)
        have hcell : wo.cell? ⟨g, q, none⟩ = some (.string ⟨p.toArray⟩) := by
          rw [HWw.out.cell q, List.getElem?_append_left (by simp [bas, HM.out]; exact hqm), List.getElem?_map]
          simp [bas, hpq]
        have hpq2 : ps[zs.length - 1 - k]? = some p := by rw [← HN.out, hq]; exact hpq
        have HPQ := hid hpq2
        have HNW := hid (fun es (h : Dg zs l es) => HW.out es h k (by rw [← HN.out]; exact hkn) p hpq2)
        have hzk := HZS.out k hkn
        have zcell : wo.cell? ⟨b, k, none⟩ = some (.int .u8 (ug zs k)) := (HS.out.below HBw.out hbR).2.1 k (by rw [← HN.out]; exact hkn)
        have HIX := hid (fun j hj => idx_str (⟨p.toArray⟩ : ByteArray) j hj 9 rfl)
        have hpd : (⟨p.toArray⟩ : ByteArray).data.toList = p := rfl
        have hpsz : (⟨p.toArray⟩ : ByteArray).size = p.length := by show p.toArray.size = _; simp
        rw [hpd, hpsz] at HIX
        obtain ⟨P, hP⟩ : ∃ P, (⟨p.toArray⟩ : ByteArray) = P := ⟨_, rfl⟩
        rw [hP] at hcell hpsz HIX
        obtain ⟨lp, hlp⟩ : ∃ x, p.length = x := ⟨_, rfl⟩
        rw [hlp] at hpsz HIX hpl
        have HLP := hid hlp; have HPP := hid hP
        obtain ⟨z, hz⟩ : ∃ z, ug zs k = z := ⟨_, rfl⟩
        rw [hz] at hzk zcell HNW
        have HZ := hid hz
        have wz : IntKind.i64.wrap z = z := IntWalk.i64_in _ (by omega)
        have k8 : k < 8 := by omega
        have k8' : (k : Int) < 8 := by omega
        clear hpq hp hpd hP hlp hpq2 hz hq
        go_wp2_with fail
        go_loopw [10, 11] (fun s10 i wr => ∃ (j : Nat) (N : Int), j ≤ lp ∧ j ≤ 3 ∧ i = .int .i64 j ∧ .int .i64 N = s10 ∧ N = (numV (p.take j) : Int) ∧ (p.take j).all digB = true ∧ wo = wr) (fun _ i _ => 3 - (intOf i).toNat)
        case atStart => exact ⟨0, 0, Nat.zero_le _, by omega, rfl, rfl, rfl, rfl, rfl⟩
        case round =>
          obtain ⟨j, N, hj, hj3, rfl, rfl, hNV, hDD, rfl⟩ := hrel
          have hnl := numV_lt (p.take j) hDD
          by_cases hjl : j < lp ∧ j < 3
          · have j1 : (j : Int) < (lp : Int) := by omega
            have j0 : (0 : Int) ≤ (j : Int) := by omega
            have j2 : (j : Int) < 3 := by omega
            have wj : IntKind.i64.wrap ((j : Int) + 1) = (j : Int) + 1 := IntWalk.i64_in _ (by omega)
            obtain ⟨u, hu, hix⟩ := HIX.out j hjl.1
            obtain ⟨x, hx⟩ : ∃ x : Int, (u.toNat : Int) = x := ⟨_, rfl⟩
            rw [hx] at hix
            by_cases hbad : x < 48 ∨ 57 < x
            · have HNO := hid (not_ex (fun es he => by
                have h1 := (HNW.out es he).2.1
                have h2 := List.all_eq_true.1 h1 u (List.mem_of_getElem? hu)
                simp [digB] at h2
                omega))
              clear hu hNV hDD hnl hx
              have r1 := HRw.out
              have b9 := HBw.out
              rcases hbad with hbad | hbad
              · have g0 := r1.cell 0; have k0 := r1.frozen 0; have g1 := r1.cell 1; have k1 := r1.frozen 1; have g2 := r1.cell 2; have k2 := r1.frozen 2; have g3 := r1.cell 3; have k3 := r1.frozen 3; have g4 := r1.cell 4; have k4 := r1.frozen 4; have g5 := r1.cell 5; have k5 := r1.frozen 5; have g6 := r1.cell 6; have k6 := r1.frozen 6; have g7 := r1.cell 7; have k7 := r1.frozen 7
                simp only [List.getElem?_cons_zero, List.getElem?_cons_succ] at g0 g1 g2 g3 g4 g5 g6 g7
                have r2 := hid (r1.set8 rfl (.int .u8 0) (.int .u8 0) (.int .u8 0) (.int .u8 0) (.int .u8 0) (.int .u8 0) (.int .u8 0) (.int .u8 0))
                have b2 := hid (below_set8 (g := R) b9 HRB.out (.int .u8 0) (.int .u8 0) (.int .u8 0) (.int .u8 0) (.int .u8 0) (.int .u8 0) (.int .u8 0) (.int .u8 0))
                clear r1
                go_wp2_with fail
                clear g0 g1 g2 g3 g4 g5 g6 g7 k0 k1 k2 k3 k4 k5 k6 k7
                obtain ⟨W, hW⟩ : ∃ W, W = ((((((((wo.setCell ⟨R, 0, none⟩ (.int .u8 0)).setCell ⟨R, 1, none⟩ (.int .u8 0)).setCell ⟨R, 2, none⟩ (.int .u8 0)).setCell ⟨R, 3, none⟩ (.int .u8 0)).setCell ⟨R, 4, none⟩ (.int .u8 0)).setCell ⟨R, 5, none⟩ (.int .u8 0)).setCell ⟨R, 6, none⟩ (.int .u8 0)).setCell ⟨R, 7, none⟩ (.int .u8 0)) := ⟨_, rfl⟩
                rw [← hW] at r2 b2 ⊢
                clear hW
                have r2 := r2.out
                have g0 := r2.cell 0; have g1 := r2.cell 1; have g2 := r2.cell 2; have g3 := r2.cell 3; have g4 := r2.cell 4; have g5 := r2.cell 5; have g6 := r2.cell 6; have g7 := r2.cell 7
                simp only [List.getElem?_cons_zero, List.getElem?_cons_succ] at g0 g1 g2 g3 g4 g5 g6 g7
                exact bodyPost_ret (v := .tuple #[.agg #[.int .u8 0, .int .u8 0, .int .u8 0, .int .u8 0, .int .u8 0, .int .u8 0, .int .u8 0, .int .u8 0], .bool false]) (by simp [results, Tryz.results25, go_sem, g0, g1, g2, g3, g4, g5, g6, g7]) rfl ⟨[0, 0, 0, 0, 0, 0, 0, 0], false, rfl, by rw [HRR.out]; exact b2.out, .inr ⟨rfl, rfl, HNO.out⟩⟩
              · have hlo : ¬ x < 48 := by omega
                have g0 := r1.cell 0; have k0 := r1.frozen 0; have g1 := r1.cell 1; have k1 := r1.frozen 1; have g2 := r1.cell 2; have k2 := r1.frozen 2; have g3 := r1.cell 3; have k3 := r1.frozen 3; have g4 := r1.cell 4; have k4 := r1.frozen 4; have g5 := r1.cell 5; have k5 := r1.frozen 5; have g6 := r1.cell 6; have k6 := r1.frozen 6; have g7 := r1.cell 7; have k7 := r1.frozen 7
                simp only [List.getElem?_cons_zero, List.getElem?_cons_succ] at g0 g1 g2 g3 g4 g5 g6 g7
                have r2 := hid (r1.set8 rfl (.int .u8 0) (.int .u8 0) (.int .u8 0) (.int .u8 0) (.int .u8 0) (.int .u8 0) (.int .u8 0) (.int .u8 0))
                have b2 := hid (below_set8 (g := R) b9 HRB.out (.int .u8 0) (.int .u8 0) (.int .u8 0) (.int .u8 0) (.int .u8 0) (.int .u8 0) (.int .u8 0) (.int .u8 0))
                clear r1
                go_wp2_with fail
                clear g0 g1 g2 g3 g4 g5 g6 g7 k0 k1 k2 k3 k4 k5 k6 k7
                obtain ⟨W, hW⟩ : ∃ W, W = ((((((((wo.setCell ⟨R, 0, none⟩ (.int .u8 0)).setCell ⟨R, 1, none⟩ (.int .u8 0)).setCell ⟨R, 2, none⟩ (.int .u8 0)).setCell ⟨R, 3, none⟩ (.int .u8 0)).setCell ⟨R, 4, none⟩ (.int .u8 0)).setCell ⟨R, 5, none⟩ (.int .u8 0)).setCell ⟨R, 6, none⟩ (.int .u8 0)).setCell ⟨R, 7, none⟩ (.int .u8 0)) := ⟨_, rfl⟩
                rw [← hW] at r2 b2 ⊢
                clear hW
                have r2 := r2.out
                have g0 := r2.cell 0; have g1 := r2.cell 1; have g2 := r2.cell 2; have g3 := r2.cell 3; have g4 := r2.cell 4; have g5 := r2.cell 5; have g6 := r2.cell 6; have g7 := r2.cell 7
                simp only [List.getElem?_cons_zero, List.getElem?_cons_succ] at g0 g1 g2 g3 g4 g5 g6 g7
                exact bodyPost_ret (v := .tuple #[.agg #[.int .u8 0, .int .u8 0, .int .u8 0, .int .u8 0, .int .u8 0, .int .u8 0, .int .u8 0, .int .u8 0], .bool false]) (by simp [results, Tryz.results25, go_sem, g0, g1, g2, g3, g4, g5, g6, g7]) rfl ⟨[0, 0, 0, 0, 0, 0, 0, 0], false, rfl, by rw [HRR.out]; exact b2.out, .inr ⟨rfl, rfl, HNO.out⟩⟩
            · have hlo : ¬ x < 48 := by omega
              have hhi : ¬ 57 < x := by omega
              have hp10 : 10 ^ (p.take j).length ≤ 10 ^ 3 := Nat.pow_le_pow_right (by omega) (by rw [List.length_take]; omega)
              have nb : 0 ≤ N ∧ N < 1000 := by omega
              have y1 : IntKind.i64.wrap (10 * N) = 10 * N := IntWalk.i64_in _ (by omega)
              have y2 : IntKind.u8.wrap (x - 48) = x - 48 := by simp only [IntKind.wrap, IntKind.signed, IntKind.bits]; simp; omega
              have y3 : IntKind.i64.wrap (x - 48) = x - 48 := IntWalk.i64_in _ (by omega)
              have y4 : IntKind.i64.wrap (10 * N + (x - 48)) = 10 * N + (x - 48) := IntWalk.i64_in _ (by omega)
              have HV2 := hid (show 10 * N + (x - 48) = (numV (p.take (j + 1)) : Int) by rw [take_snoc hu, numV_snoc, hNV]; omega)
              have HD2 := hid (show (p.take (j + 1)).all digB = true by
                rw [take_snoc hu, List.all_append, hDD]
                simp [digB]; omega)
              clear hu hNV hDD hnl hx hp10 nb hbad
              go_wp2_with fail
              go_roundw
              case rel => exact ⟨j + 1, 10 * N + (x - 48), by omega, by omega, by go_num, rfl, HV2.out, HD2.out, by first | rfl | trivial⟩
              case measure => simp [intOf]; omega
          · have hT3 : p.take j = p.take 3 := by
              by_cases h3 : j = 3
              · rw [h3]
              · rw [List.take_of_length_le (by have := HLP.out; omega), List.take_of_length_le (by have := HLP.out; omega)]
            have hp10 : 10 ^ (p.take j).length ≤ 10 ^ 3 := Nat.pow_le_pow_right (by omega) (by rw [List.length_take]; omega)
            have nb : 0 ≤ N ∧ N < 1000 := by omega
            rw [hT3] at hNV
            have HNV := hid hNV
            have hgu : ¬ (j : Int) < (lp : Int) ∨ ((j : Int) < (lp : Int) ∧ ¬ (j : Int) < 3) := by omega
            clear hT3 hp10 hNV hDD hnl hjl
            by_cases hNz : N < z
            · have wN : IntKind.u8.wrap N = N := by simp only [IntKind.wrap, IntKind.signed, IntKind.bits]; simp; omega
              have hNz2 : ¬ z ≤ N := by omega
              have HDGc := hid (specDigit_any z N hzk ⟨nb.1, hNz⟩ wo)
              rw [show padZ (padZ 1 (Lib.itoa (z - 1))).length (Lib.itoa N) = dgT z N from rfl] at HDGc
              by_cases heq : dgT z N = p
              · rw [heq, HPP.out] at HDGc
                have hbb : (P.toList != P.toList) = false := by simp
                have HPK := hid (show ps[zs.length - 1 - k]? = some (dgT (ug zs k) N) from by rw [HZ.out, heq]; exact HPQ.out)
                have HNB := hid (show 0 ≤ N ∧ N < ug zs k from by rw [HZ.out]; exact ⟨nb.1, hNz⟩)
                clear heq
                rcases hgu with hgu | ⟨hgl, hgu⟩
                · go_wp2_with fail
                  refine HDGc.out.mono ?_
                  rintro e w6 ⟨rfl, hB6⟩
                  have hz6 := hB6.size
                  have rD6 := HDw.out.below hB6 HDw.out.lt
                  have hfz := rD6.frozen k
                  obtain ⟨old, hold⟩ : ∃ u, w6.cell? ⟨D, k, none⟩ = some u := ⟨_, (rD6.cell k).trans (List.getElem?_eq_getElem (by rw [List.length_map, HL8.out]; exact k8))⟩
                  have rs := rD6.set k (.int .u8 N)
                  rw [← List.map_set] at rs
                  have HRS := hid rs
                  have HRR6 := hid ((HRw.out.below hB6 HRw.out.lt).other (a := ⟨D, k, none⟩) (by show D ≠ R; omega) (.int .u8 N))
                  have HWR6 := hid ((HWw.out.below hB6 HWw.out.lt).other (a := ⟨D, k, none⟩) (by show D ≠ g; omega) (.int .u8 N))
                  have HBB6 := hid ((HBw.out.trans (hB6.mono (by have h1 := HBw.out.size; have h2 := HRR.out; omega))).setCell (p := ⟨D, k, none⟩) (by show R ≤ D; omega) (.int .u8 N))
                  have HDZ6 := hid (show D < (w6.setCell ⟨D, k, none⟩ (.int .u8 N)).heap.size by have := HDz.out; simp; omega)
                  clear rs rD6 hB6
                  go_wp2_with fail
                  go_roundw
                  case rel => exact ⟨k + 1, L.set k N, by omega, by go_num, by rw [List.length_set]; exact HL8.out, fun z' hz' => by
                    rcases List.mem_or_eq_of_mem_set hz' with h | h
                    · exact HLB.out z' h
                    · subst h; omega, DgTo_step HTO.out HL8.out k8 HNB.out HPK.out, HRS.out, HRR6.out, HWR6.out, HBB6.out, HDZ6.out⟩
                  case measure => simp [intOf]; omega
                · go_wp2_with fail
                  refine HDGc.out.mono ?_
                  rintro e w6 ⟨rfl, hB6⟩
                  have hz6 := hB6.size
                  have rD6 := HDw.out.below hB6 HDw.out.lt
                  have hfz := rD6.frozen k
                  obtain ⟨old, hold⟩ : ∃ u, w6.cell? ⟨D, k, none⟩ = some u := ⟨_, (rD6.cell k).trans (List.getElem?_eq_getElem (by rw [List.length_map, HL8.out]; exact k8))⟩
                  have rs := rD6.set k (.int .u8 N)
                  rw [← List.map_set] at rs
                  have HRS := hid rs
                  have HRR6 := hid ((HRw.out.below hB6 HRw.out.lt).other (a := ⟨D, k, none⟩) (by show D ≠ R; omega) (.int .u8 N))
                  have HWR6 := hid ((HWw.out.below hB6 HWw.out.lt).other (a := ⟨D, k, none⟩) (by show D ≠ g; omega) (.int .u8 N))
                  have HBB6 := hid ((HBw.out.trans (hB6.mono (by have h1 := HBw.out.size; have h2 := HRR.out; omega))).setCell (p := ⟨D, k, none⟩) (by show R ≤ D; omega) (.int .u8 N))
                  have HDZ6 := hid (show D < (w6.setCell ⟨D, k, none⟩ (.int .u8 N)).heap.size by have := HDz.out; simp; omega)
                  clear rs rD6 hB6
                  go_wp2_with fail
                  go_roundw
                  case rel => exact ⟨k + 1, L.set k N, by omega, by go_num, by rw [List.length_set]; exact HL8.out, fun z' hz' => by
                    rcases List.mem_or_eq_of_mem_set hz' with h | h
                    · exact HLB.out z' h
                    · subst h; omega, DgTo_step HTO.out HL8.out k8 HNB.out HPK.out, HRS.out, HRR6.out, HWR6.out, HBB6.out, HDZ6.out⟩
                  case measure => simp [intOf]; omega
              · have HNO := hid (not_ex (fun es he => by
                  have h := HNW.out es he
                  have h2 := HNV.out
                  rw [h.1] at h2
                  exact heq (by rw [h2]; exact h.2.2.2)))
                have hb1 : ((⟨(dgT z N).toArray⟩ : ByteArray).toList == P.toList) = false := by rw [Lib.toList_data, Lib.toList_data, ← HPP.out]; simpa using heq
                have hb2 : ((⟨(dgT z N).toArray⟩ : ByteArray).toList != P.toList) = true := by rw [bne, hb1]; rfl
                have hb3 : ¬ (⟨(dgT z N).toArray⟩ : ByteArray).toList = P.toList := by simpa using hb1
                obtain ⟨T, hT⟩ : ∃ T, (⟨(dgT z N).toArray⟩ : ByteArray) = T := ⟨_, rfl⟩
                rw [hT] at hb1 hb2 hb3 HDGc
                clear heq hT
                rcases hgu with hgu | ⟨hgl, hgu⟩
                · go_wp2_with fail
                  refine HDGc.out.mono ?_
                  rintro e w6 ⟨rfl, hB6⟩
                  have r1 := HRw.out.below hB6 HRw.out.lt
                  have b9 := HBw.out.trans (hB6.mono (by have h1 := HBw.out.size; have h2 := HRR.out; omega))
                  clear hB6
                  have g0 := r1.cell 0; have k0 := r1.frozen 0; have g1 := r1.cell 1; have k1 := r1.frozen 1; have g2 := r1.cell 2; have k2 := r1.frozen 2; have g3 := r1.cell 3; have k3 := r1.frozen 3; have g4 := r1.cell 4; have k4 := r1.frozen 4; have g5 := r1.cell 5; have k5 := r1.frozen 5; have g6 := r1.cell 6; have k6 := r1.frozen 6; have g7 := r1.cell 7; have k7 := r1.frozen 7
                  simp only [List.getElem?_cons_zero, List.getElem?_cons_succ] at g0 g1 g2 g3 g4 g5 g6 g7
                  have r2 := hid (r1.set8 rfl (.int .u8 0) (.int .u8 0) (.int .u8 0) (.int .u8 0) (.int .u8 0) (.int .u8 0) (.int .u8 0) (.int .u8 0))
                  have b2 := hid (below_set8 (g := R) b9 HRB.out (.int .u8 0) (.int .u8 0) (.int .u8 0) (.int .u8 0) (.int .u8 0) (.int .u8 0) (.int .u8 0) (.int .u8 0))
                  clear r1
                  go_wp2_with fail
                  clear g0 g1 g2 g3 g4 g5 g6 g7 k0 k1 k2 k3 k4 k5 k6 k7
                  obtain ⟨W, hW⟩ : ∃ W, W = ((((((((w6.setCell ⟨R, 0, none⟩ (.int .u8 0)).setCell ⟨R, 1, none⟩ (.int .u8 0)).setCell ⟨R, 2, none⟩ (.int .u8 0)).setCell ⟨R, 3, none⟩ (.int .u8 0)).setCell ⟨R, 4, none⟩ (.int .u8 0)).setCell ⟨R, 5, none⟩ (.int .u8 0)).setCell ⟨R, 6, none⟩ (.int .u8 0)).setCell ⟨R, 7, none⟩ (.int .u8 0)) := ⟨_, rfl⟩
                  rw [← hW] at r2 b2 ⊢
                  clear hW
                  have r2 := r2.out
                  have g0 := r2.cell 0; have g1 := r2.cell 1; have g2 := r2.cell 2; have g3 := r2.cell 3; have g4 := r2.cell 4; have g5 := r2.cell 5; have g6 := r2.cell 6; have g7 := r2.cell 7
                  simp only [List.getElem?_cons_zero, List.getElem?_cons_succ] at g0 g1 g2 g3 g4 g5 g6 g7
                  exact bodyPost_ret (v := .tuple #[.agg #[.int .u8 0, .int .u8 0, .int .u8 0, .int .u8 0, .int .u8 0, .int .u8 0, .int .u8 0, .int .u8 0], .bool false]) (by simp [results, Tryz.results25, go_sem, g0, g1, g2, g3, g4, g5, g6, g7]) rfl ⟨[0, 0, 0, 0, 0, 0, 0, 0], false, rfl, by rw [HRR.out]; exact b2.out, .inr ⟨rfl, rfl, HNO.out⟩⟩
                · go_wp2_with fail
                  refine HDGc.out.mono ?_
                  rintro e w6 ⟨rfl, hB6⟩
                  have r1 := HRw.out.below hB6 HRw.out.lt
                  have b9 := HBw.out.trans (hB6.mono (by have h1 := HBw.out.size; have h2 := HRR.out; omega))
                  clear hB6
                  have g0 := r1.cell 0; have k0 := r1.frozen 0; have g1 := r1.cell 1; have k1 := r1.frozen 1; have g2 := r1.cell 2; have k2 := r1.frozen 2; have g3 := r1.cell 3; have k3 := r1.frozen 3; have g4 := r1.cell 4; have k4 := r1.frozen 4; have g5 := r1.cell 5; have k5 := r1.frozen 5; have g6 := r1.cell 6; have k6 := r1.frozen 6; have g7 := r1.cell 7; have k7 := r1.frozen 7
                  simp only [List.getElem?_cons_zero, List.getElem?_cons_succ] at g0 g1 g2 g3 g4 g5 g6 g7
                  have r2 := hid (r1.set8 rfl (.int .u8 0) (.int .u8 0) (.int .u8 0) (.int .u8 0) (.int .u8 0) (.int .u8 0) (.int .u8 0) (.int .u8 0))
                  have b2 := hid (below_set8 (g := R) b9 HRB.out (.int .u8 0) (.int .u8 0) (.int .u8 0) (.int .u8 0) (.int .u8 0) (.int .u8 0) (.int .u8 0) (.int .u8 0))
                  clear r1
                  go_wp2_with fail
                  clear g0 g1 g2 g3 g4 g5 g6 g7 k0 k1 k2 k3 k4 k5 k6 k7
                  obtain ⟨W, hW⟩ : ∃ W, W = ((((((((w6.setCell ⟨R, 0, none⟩ (.int .u8 0)).setCell ⟨R, 1, none⟩ (.int .u8 0)).setCell ⟨R, 2, none⟩ (.int .u8 0)).setCell ⟨R, 3, none⟩ (.int .u8 0)).setCell ⟨R, 4, none⟩ (.int .u8 0)).setCell ⟨R, 5, none⟩ (.int .u8 0)).setCell ⟨R, 6, none⟩ (.int .u8 0)).setCell ⟨R, 7, none⟩ (.int .u8 0)) := ⟨_, rfl⟩
                  rw [← hW] at r2 b2 ⊢
                  clear hW
                  have r2 := r2.out
                  have g0 := r2.cell 0; have g1 := r2.cell 1; have g2 := r2.cell 2; have g3 := r2.cell 3; have g4 := r2.cell 4; have g5 := r2.cell 5; have g6 := r2.cell 6; have g7 := r2.cell 7
                  simp only [List.getElem?_cons_zero, List.getElem?_cons_succ] at g0 g1 g2 g3 g4 g5 g6 g7
                  exact bodyPost_ret (v := .tuple #[.agg #[.int .u8 0, .int .u8 0, .int .u8 0, .int .u8 0, .int .u8 0, .int .u8 0, .int .u8 0, .int .u8 0], .bool false]) (by simp [results, Tryz.results25, go_sem, g0, g1, g2, g3, g4, g5, g6, g7]) rfl ⟨[0, 0, 0, 0, 0, 0, 0, 0], false, rfl, by rw [HRR.out]; exact b2.out, .inr ⟨rfl, rfl, HNO.out⟩⟩
            · have hNz2 : z ≤ N := by omega
              have HNO := hid (not_ex (fun es he => by
                have h := HNW.out es he
                have h2 := HNV.out
                rw [h.1] at h2
                omega))
              have r1 := HRw.out
              have b9 := HBw.out
              rcases hgu with hgu | ⟨hgl, hgu⟩
              · have g0 := r1.cell 0; have k0 := r1.frozen 0; have g1 := r1.cell 1; have k1 := r1.frozen 1; have g2 := r1.cell 2; have k2 := r1.frozen 2; have g3 := r1.cell 3; have k3 := r1.frozen 3; have g4 := r1.cell 4; have k4 := r1.frozen 4; have g5 := r1.cell 5; have k5 := r1.frozen 5; have g6 := r1.cell 6; have k6 := r1.frozen 6; have g7 := r1.cell 7; have k7 := r1.frozen 7
                simp only [List.getElem?_cons_zero, List.getElem?_cons_succ] at g0 g1 g2 g3 g4 g5 g6 g7
                have r2 := hid (r1.set8 rfl (.int .u8 0) (.int .u8 0) (.int .u8 0) (.int .u8 0) (.int .u8 0) (.int .u8 0) (.int .u8 0) (.int .u8 0))
                have b2 := hid (below_set8 (g := R) b9 HRB.out (.int .u8 0) (.int .u8 0) (.int .u8 0) (.int .u8 0) (.int .u8 0) (.int .u8 0) (.int .u8 0) (.int .u8 0))
                clear r1
                go_wp2_with fail
                clear g0 g1 g2 g3 g4 g5 g6 g7 k0 k1 k2 k3 k4 k5 k6 k7
                obtain ⟨W, hW⟩ : ∃ W, W = ((((((((wo.setCell ⟨R, 0, none⟩ (.int .u8 0)).setCell ⟨R, 1, none⟩ (.int .u8 0)).setCell ⟨R, 2, none⟩ (.int .u8 0)).setCell ⟨R, 3, none⟩ (.int .u8 0)).setCell ⟨R, 4, none⟩ (.int .u8 0)).setCell ⟨R, 5, none⟩ (.int .u8 0)).setCell ⟨R, 6, none⟩ (.int .u8 0)).setCell ⟨R, 7, none⟩ (.int .u8 0)) := ⟨_, rfl⟩
                rw [← hW] at r2 b2 ⊢
                clear hW
                have r2 := r2.out
                have g0 := r2.cell 0; have g1 := r2.cell 1; have g2 := r2.cell 2; have g3 := r2.cell 3; have g4 := r2.cell 4; have g5 := r2.cell 5; have g6 := r2.cell 6; have g7 := r2.cell 7
                simp only [List.getElem?_cons_zero, List.getElem?_cons_succ] at g0 g1 g2 g3 g4 g5 g6 g7
                exact bodyPost_ret (v := .tuple #[.agg #[.int .u8 0, .int .u8 0, .int .u8 0, .int .u8 0, .int .u8 0, .int .u8 0, .int .u8 0, .int .u8 0], .bool false]) (by simp [results, Tryz.results25, go_sem, g0, g1, g2, g3, g4, g5, g6, g7]) rfl ⟨[0, 0, 0, 0, 0, 0, 0, 0], false, rfl, by rw [HRR.out]; exact b2.out, .inr ⟨rfl, rfl, HNO.out⟩⟩
              · have g0 := r1.cell 0; have k0 := r1.frozen 0; have g1 := r1.cell 1; have k1 := r1.frozen 1; have g2 := r1.cell 2; have k2 := r1.frozen 2; have g3 := r1.cell 3; have k3 := r1.frozen 3; have g4 := r1.cell 4; have k4 := r1.frozen 4; have g5 := r1.cell 5; have k5 := r1.frozen 5; have g6 := r1.cell 6; have k6 := r1.frozen 6; have g7 := r1.cell 7; have k7 := r1.frozen 7
                simp only [List.getElem?_cons_zero, List.getElem?_cons_succ] at g0 g1 g2 g3 g4 g5 g6 g7
                have r2 := hid (r1.set8 rfl (.int .u8 0) (.int .u8 0) (.int .u8 0) (.int .u8 0) (.int .u8 0) (.int .u8 0) (.int .u8 0) (.int .u8 0))
                have b2 := hid (below_set8 (g := R) b9 HRB.out (.int .u8 0) (.int .u8 0) (.int .u8 0) (.int .u8 0) (.int .u8 0) (.int .u8 0) (.int .u8 0) (.int .u8 0))
                clear r1
                go_wp2_with fail
                clear g0 g1 g2 g3 g4 g5 g6 g7 k0 k1 k2 k3 k4 k5 k6 k7
                obtain ⟨W, hW⟩ : ∃ W, W = ((((((((wo.setCell ⟨R, 0, none⟩ (.int .u8 0)).setCell ⟨R, 1, none⟩ (.int .u8 0)).setCell ⟨R, 2, none⟩ (.int .u8 0)).setCell ⟨R, 3, none⟩ (.int .u8 0)).setCell ⟨R, 4, none⟩ (.int .u8 0)).setCell ⟨R, 5, none⟩ (.int .u8 0)).setCell ⟨R, 6, none⟩ (.int .u8 0)).setCell ⟨R, 7, none⟩ (.int .u8 0)) := ⟨_, rfl⟩
                rw [← hW] at r2 b2 ⊢
                clear hW
                have r2 := r2.out
                have g0 := r2.cell 0; have g1 := r2.cell 1; have g2 := r2.cell 2; have g3 := r2.cell 3; have g4 := r2.cell 4; have g5 := r2.cell 5; have g6 := r2.cell 6; have g7 := r2.cell 7
                simp only [List.getElem?_cons_zero, List.getElem?_cons_succ] at g0 g1 g2 g3 g4 g5 g6 g7
                exact bodyPost_ret (v := .tuple #[.agg #[.int .u8 0, .int .u8 0, .int .u8 0, .int .u8 0, .int .u8 0, .int .u8 0, .int .u8 0, .int .u8 0], .bool false]) (by simp [results, Tryz.results25, go_sem, g0, g1, g2, g3, g4, g5, g6, g7]) rfl ⟨[0, 0, 0, 0, 0, 0, 0, 0], false, rfl, by rw [HRR.out]; exact b2.out, .inr ⟨rfl, rfl, HNO.out⟩⟩
      · obtain rfl : k = m := by omega
        have k1 : ¬ (k : Int) < (k : Int) := by omega
        obtain ⟨e0, e1, e2, e3, e4, e5, e6, e7, hE⟩ := len8 HL8.out
        have HDG := hid (HMK.out L HL8.out HN.out (by rw [← HN.out]; exact HTO.out))
        have rd := HDw.out
        rw [hE] at rd HDG
        simp only [List.map_cons, List.map_nil] at rd
        have c0 := rd.cell 0; have c1 := rd.cell 1; have c2 := rd.cell 2; have c3 := rd.cell 3; have c4 := rd.cell 4; have c5 := rd.cell 5; have c6 := rd.cell 6; have c7 := rd.cell 7
        simp only [List.getElem?_cons_zero, List.getElem?_cons_succ] at c0 c1 c2 c3 c4 c5 c6 c7
        have r1 := HRw.out
        have b9 := HBw.out
        clear rd hE
        have g0 := r1.cell 0; have k0 := r1.frozen 0; have g1 := r1.cell 1; have k1 := r1.frozen 1; have g2 := r1.cell 2; have k2 := r1.frozen 2; have g3 := r1.cell 3; have k3 := r1.frozen 3; have g4 := r1.cell 4; have k4 := r1.frozen 4; have g5 := r1.cell 5; have k5 := r1.frozen 5; have g6 := r1.cell 6; have k6 := r1.frozen 6; have g7 := r1.cell 7; have k7 := r1.frozen 7
        simp only [List.getElem?_cons_zero, List.getElem?_cons_succ] at g0 g1 g2 g3 g4 g5 g6 g7
        have r2 := hid (r1.set8 rfl (.int .u8 e0) (.int .u8 e1) (.int .u8 e2) (.int .u8 e3) (.int .u8 e4) (.int .u8 e5) (.int .u8 e6) (.int .u8 e7))
        have b2 := hid (below_set8 (g := R) b9 HRB.out (.int .u8 e0) (.int .u8 e1) (.int .u8 e2) (.int .u8 e3) (.int .u8 e4) (.int .u8 e5) (.int .u8 e6) (.int .u8 e7))
        clear r1
        go_wp2_with fail
        clear g0 g1 g2 g3 g4 g5 g6 g7 k0 k1 k2 k3 k4 k5 k6 k7 c0 c1 c2 c3 c4 c5 c6 c7
        obtain ⟨W, hW⟩ : ∃ W, W = ((((((((wo.setCell ⟨R, 0, none⟩ (.int .u8 e0)).setCell ⟨R, 1, none⟩ (.int .u8 e1)).setCell ⟨R, 2, none⟩ (.int .u8 e2)).setCell ⟨R, 3, none⟩ (.int .u8 e3)).setCell ⟨R, 4, none⟩ (.int .u8 e4)).setCell ⟨R, 5, none⟩ (.int .u8 e5)).setCell ⟨R, 6, none⟩ (.int .u8 e6)).setCell ⟨R, 7, none⟩ (.int .u8 e7)) := ⟨_, rfl⟩
        rw [← hW] at r2 b2 ⊢
        clear hW
        have r2 := r2.out
        have g0 := r2.cell 0; have g1 := r2.cell 1; have g2 := r2.cell 2; have g3 := r2.cell 3; have g4 := r2.cell 4; have g5 := r2.cell 5; have g6 := r2.cell 6; have g7 := r2.cell 7
        simp only [List.getElem?_cons_zero, List.getElem?_cons_succ] at g0 g1 g2 g3 g4 g5 g6 g7
        exact bodyPost_ret (v := .tuple #[.agg #[.int .u8 e0, .int .u8 e1, .int .u8 e2, .int .u8 e3, .int .u8 e4, .int .u8 e5, .int .u8 e6, .int .u8 e7], .bool true]) (by simp [results, Tryz.results25, go_sem, g0, g1, g2, g3, g4, g5, g6, g7]) rfl ⟨[e0, e1, e2, e3, e4, e5, e6, e7], true, rfl, by rw [HRR.out]; exact b2.out, .inl ⟨rfl, HDG.out⟩⟩
end Go.Proofs.YtcanfcpofihoeaaGreatDoor

namespace Go.Proofs.YtcanfcpofihoeaaGreatDoor
open Go.RowKit
set_option linter.unusedVariables false
set_option linter.unusedSimpArgs false
set_option maxRecDepth 100000 in
set_option maxHeartbeats 4000000 in
theorem specReadDigits_any (b n cap : Nat) (zs : List Int) (hn : n = zs.length) (t : ByteArray) (ht : t.size ≤ 1048576) (w : World) (hS : Stk w b zs) :
    Calls Tryz.prog 15 #[.slice (some ⟨b, 0, none⟩) n cap, .string t] w (RdG zs t.data.toList w) := by
  obtain ⟨R, hR⟩ : ∃ R, w.heap.size = R := ⟨_, rfl⟩
  have bR : Below R w (w.alloc (.cells #[.int .u8 0, .int .u8 0, .int .u8 0, .int .u8 0, .int .u8 0, .int .u8 0, .int .u8 0, .int .u8 0] 39)) := by rw [← hR]; exact (Below.refl _ _).alloc (Nat.le_refl _) _
  have rR := Row.new w 39 [.int .u8 0, .int .u8 0, .int .u8 0, .int .u8 0, .int .u8 0, .int .u8 0, .int .u8 0, .int .u8 0]
  rw [hR] at rR
  have HBR := hid bR; have HRR0 := hid rR; have HRR := hid hR; have HS := hid hS
  have HRB := hid (Nat.le_refl R)
  have hbR : b < R := by rw [← hR]; exact hS.1
  have HVW := hid (l01Ok_any b n cap zs _ (hS.below bR hbR) hn)
  have HLR := hid (fun (hok : okL zs = true) => l01Read_any b n cap zs hn hok t ht _ (hS.below bR hbR))
  clear hS hn bR rR ht
  by_cases hok : okL zs = false
  · rw [hok] at HVW
    have HO := hid hok
    have b9 := HBR.out
    have r1 := HRR0.out
    clear hok HLR
    go_enter Tryz.func15, Tryz.ntmps15
    go_wp2_with fail
    refine HVW.out.mono ?_
    rintro e v9 ⟨rfl, hw⟩
    rw [hw] at r1 b9
    have g0 := r1.cell 0; have k0 := r1.frozen 0; have g1 := r1.cell 1; have k1 := r1.frozen 1; have g2 := r1.cell 2; have k2 := r1.frozen 2; have g3 := r1.cell 3; have k3 := r1.frozen 3; have g4 := r1.cell 4; have k4 := r1.frozen 4; have g5 := r1.cell 5; have k5 := r1.frozen 5; have g6 := r1.cell 6; have k6 := r1.frozen 6; have g7 := r1.cell 7; have k7 := r1.frozen 7
    simp only [List.getElem?_cons_zero, List.getElem?_cons_succ] at g0 g1 g2 g3 g4 g5 g6 g7
    have r2 := hid (r1.set8 rfl (.int .u8 0) (.int .u8 0) (.int .u8 0) (.int .u8 0) (.int .u8 0) (.int .u8 0) (.int .u8 0) (.int .u8 0))
    have b2 := hid (below_set8 (g := R) b9 HRB.out (.int .u8 0) (.int .u8 0) (.int .u8 0) (.int .u8 0) (.int .u8 0) (.int .u8 0) (.int .u8 0) (.int .u8 0))
    clear r1
    go_wp2_with fail
    clear g0 g1 g2 g3 g4 g5 g6 g7 k0 k1 k2 k3 k4 k5 k6 k7
    obtain ⟨W, hW⟩ : ∃ W, W = ((((((((v9.setCell ⟨R, 0, none⟩ (.int .u8 0)).setCell ⟨R, 1, none⟩ (.int .u8 0)).setCell ⟨R, 2, none⟩ (.int .u8 0)).setCell ⟨R, 3, none⟩ (.int .u8 0)).setCell ⟨R, 4, none⟩ (.int .u8 0)).setCell ⟨R, 5, none⟩ (.int .u8 0)).setCell ⟨R, 6, none⟩ (.int .u8 0)).setCell ⟨R, 7, none⟩ (.int .u8 0)) := ⟨_, rfl⟩
    rw [← hW] at r2 b2 ⊢
    clear hW
    have r2 := r2.out
    have g0 := r2.cell 0; have g1 := r2.cell 1; have g2 := r2.cell 2; have g3 := r2.cell 3; have g4 := r2.cell 4; have g5 := r2.cell 5; have g6 := r2.cell 6; have g7 := r2.cell 7
    simp only [List.getElem?_cons_zero, List.getElem?_cons_succ] at g0 g1 g2 g3 g4 g5 g6 g7
    exact bodyPost_ret (v := .tuple #[.agg #[.int .u8 0, .int .u8 0, .int .u8 0, .int .u8 0, .int .u8 0, .int .u8 0, .int .u8 0, .int .u8 0], .int .i64 1]) (by simp [results, Tryz.results15, go_sem, g0, g1, g2, g3, g4, g5, g6, g7]) rfl ⟨[0, 0, 0, 0, 0, 0, 0, 0], 1, rfl, by rw [HRR.out]; exact b2.out, .inl ⟨HO.out, rfl, rfl⟩⟩
  · have hok : okL zs = true := by simpa using hok
    rw [hok] at HVW
    have HO := hid hok
    have HL2 := hid (HLR.out hok)
    clear hok HLR
    go_enter Tryz.func15, Tryz.ntmps15
    go_wp2_with fail
    refine HVW.out.mono ?_
    rintro e v2 ⟨rfl, hw⟩
    subst hw
    go_wp2_with fail
    refine HL2.out.mono ?_
    rintro e v3 ⟨ds, ok, rfl, hB, ⟨rfl, hD⟩ | ⟨rfl, rfl, hN⟩⟩
    · simp only [World.size_alloc] at hB
      obtain ⟨e0, e1, e2, e3, e4, e5, e6, e7, rfl⟩ := len8 hD.1
      simp only [List.map_cons, List.map_nil]
      have HD := hid hD
      have r3 := HRR0.out.below hB (by have := HRR.out; omega)
      have b3 := HBR.out.trans (show Below R _ v3 from hB.mono (by have := HRR.out; omega))
      have rD := Row.new v3 39 [.int .u8 e0, .int .u8 e1, .int .u8 e2, .int .u8 e3, .int .u8 e4, .int .u8 e5, .int .u8 e6, .int .u8 e7]
      have r1 := r3.alloc (.cells #[.int .u8 e0, .int .u8 e1, .int .u8 e2, .int .u8 e3, .int .u8 e4, .int .u8 e5, .int .u8 e6, .int .u8 e7] 39)
      have hz3 : R ≤ v3.heap.size := by have h1 := b3.size; have := HRR.out; omega
      have b9 := b3.alloc hz3 (.cells #[.int .u8 e0, .int .u8 e1, .int .u8 e2, .int .u8 e3, .int .u8 e4, .int .u8 e5, .int .u8 e6, .int .u8 e7] 39)
      obtain ⟨Vw, hVw⟩ : ∃ Vw, Vw = v3.alloc (.cells #[.int .u8 e0, .int .u8 e1, .int .u8 e2, .int .u8 e3, .int .u8 e4, .int .u8 e5, .int .u8 e6, .int .u8 e7] 39) := ⟨_, rfl⟩
      rw [← hVw] at rD r1 b9
      have HVw := hid hVw
      clear hVw hD hB r3 b3
      go_upto_region 4 with fail
      rw [← HVw.out]
      have c0 := rD.cell 0; have c1 := rD.cell 1; have c2 := rD.cell 2; have c3 := rD.cell 3; have c4 := rD.cell 4; have c5 := rD.cell 5; have c6 := rD.cell 6; have c7 := rD.cell 7
      simp only [List.getElem?_cons_zero, List.getElem?_cons_succ] at c0 c1 c2 c3 c4 c5 c6 c7
      clear rD
      have g0 := r1.cell 0; have k0 := r1.frozen 0; have g1 := r1.cell 1; have k1 := r1.frozen 1; have g2 := r1.cell 2; have k2 := r1.frozen 2; have g3 := r1.cell 3; have k3 := r1.frozen 3; have g4 := r1.cell 4; have k4 := r1.frozen 4; have g5 := r1.cell 5; have k5 := r1.frozen 5; have g6 := r1.cell 6; have k6 := r1.frozen 6; have g7 := r1.cell 7; have k7 := r1.frozen 7
      simp only [List.getElem?_cons_zero, List.getElem?_cons_succ] at g0 g1 g2 g3 g4 g5 g6 g7
      have r2 := hid (r1.set8 rfl (.int .u8 e0) (.int .u8 e1) (.int .u8 e2) (.int .u8 e3) (.int .u8 e4) (.int .u8 e5) (.int .u8 e6) (.int .u8 e7))
      have b2 := hid (below_set8 (g := R) b9 HRB.out (.int .u8 e0) (.int .u8 e1) (.int .u8 e2) (.int .u8 e3) (.int .u8 e4) (.int .u8 e5) (.int .u8 e6) (.int .u8 e7))
      clear r1
      go_wp2_with fail
      clear g0 g1 g2 g3 g4 g5 g6 g7 k0 k1 k2 k3 k4 k5 k6 k7 c0 c1 c2 c3 c4 c5 c6 c7
      obtain ⟨W, hW⟩ : ∃ W, W = ((((((((Vw.setCell ⟨R, 0, none⟩ (.int .u8 e0)).setCell ⟨R, 1, none⟩ (.int .u8 e1)).setCell ⟨R, 2, none⟩ (.int .u8 e2)).setCell ⟨R, 3, none⟩ (.int .u8 e3)).setCell ⟨R, 4, none⟩ (.int .u8 e4)).setCell ⟨R, 5, none⟩ (.int .u8 e5)).setCell ⟨R, 6, none⟩ (.int .u8 e6)).setCell ⟨R, 7, none⟩ (.int .u8 e7)) := ⟨_, rfl⟩
      rw [← hW] at r2 b2 ⊢
      clear hW
      have r2 := r2.out
      have g0 := r2.cell 0; have g1 := r2.cell 1; have g2 := r2.cell 2; have g3 := r2.cell 3; have g4 := r2.cell 4; have g5 := r2.cell 5; have g6 := r2.cell 6; have g7 := r2.cell 7
      simp only [List.getElem?_cons_zero, List.getElem?_cons_succ] at g0 g1 g2 g3 g4 g5 g6 g7
      exact bodyPost_ret (v := .tuple #[.agg #[.int .u8 e0, .int .u8 e1, .int .u8 e2, .int .u8 e3, .int .u8 e4, .int .u8 e5, .int .u8 e6, .int .u8 e7], .int .i64 0]) (by simp [results, Tryz.results15, go_sem, g0, g1, g2, g3, g4, g5, g6, g7]) rfl ⟨[e0, e1, e2, e3, e4, e5, e6, e7], 0, rfl, by rw [HRR.out]; exact b2.out, .inr ⟨HO.out, .inl ⟨HD.out, rfl⟩⟩⟩
    · simp only [World.size_alloc] at hB
      have HN2 := hid hN
      have r3 := HRR0.out.below hB (by have := HRR.out; omega)
      have b3 := HBR.out.trans (show Below R _ v3 from hB.mono (by have := HRR.out; omega))
      have hz3 : R ≤ v3.heap.size := by have h1 := b3.size; have := HRR.out; omega
      simp only [List.map_cons, List.map_nil]
      have r1 := r3.alloc (.cells #[.int .u8 0, .int .u8 0, .int .u8 0, .int .u8 0, .int .u8 0, .int .u8 0, .int .u8 0, .int .u8 0] 39)
      have b9 := b3.alloc hz3 (.cells #[.int .u8 0, .int .u8 0, .int .u8 0, .int .u8 0, .int .u8 0, .int .u8 0, .int .u8 0, .int .u8 0] 39)
      obtain ⟨Vw, hVw⟩ : ∃ Vw, Vw = v3.alloc (.cells #[.int .u8 0, .int .u8 0, .int .u8 0, .int .u8 0, .int .u8 0, .int .u8 0, .int .u8 0, .int .u8 0] 39) := ⟨_, rfl⟩
      rw [← hVw] at r1 b9
      have HVw := hid hVw
      clear hVw hN hB r3 b3
      go_upto_region 4 with fail
      rw [← HVw.out]
      have g0 := r1.cell 0; have k0 := r1.frozen 0; have g1 := r1.cell 1; have k1 := r1.frozen 1; have g2 := r1.cell 2; have k2 := r1.frozen 2; have g3 := r1.cell 3; have k3 := r1.frozen 3; have g4 := r1.cell 4; have k4 := r1.frozen 4; have g5 := r1.cell 5; have k5 := r1.frozen 5; have g6 := r1.cell 6; have k6 := r1.frozen 6; have g7 := r1.cell 7; have k7 := r1.frozen 7
      simp only [List.getElem?_cons_zero, List.getElem?_cons_succ] at g0 g1 g2 g3 g4 g5 g6 g7
      have r2 := hid (r1.set8 rfl (.int .u8 0) (.int .u8 0) (.int .u8 0) (.int .u8 0) (.int .u8 0) (.int .u8 0) (.int .u8 0) (.int .u8 0))
      have b2 := hid (below_set8 (g := R) b9 HRB.out (.int .u8 0) (.int .u8 0) (.int .u8 0) (.int .u8 0) (.int .u8 0) (.int .u8 0) (.int .u8 0) (.int .u8 0))
      clear r1
      go_wp2_with fail
      clear g0 g1 g2 g3 g4 g5 g6 g7 k0 k1 k2 k3 k4 k5 k6 k7
      obtain ⟨W, hW⟩ : ∃ W, W = ((((((((Vw.setCell ⟨R, 0, none⟩ (.int .u8 0)).setCell ⟨R, 1, none⟩ (.int .u8 0)).setCell ⟨R, 2, none⟩ (.int .u8 0)).setCell ⟨R, 3, none⟩ (.int .u8 0)).setCell ⟨R, 4, none⟩ (.int .u8 0)).setCell ⟨R, 5, none⟩ (.int .u8 0)).setCell ⟨R, 6, none⟩ (.int .u8 0)).setCell ⟨R, 7, none⟩ (.int .u8 0)) := ⟨_, rfl⟩
      rw [← hW] at r2 b2 ⊢
      clear hW
      have r2 := r2.out
      have g0 := r2.cell 0; have g1 := r2.cell 1; have g2 := r2.cell 2; have g3 := r2.cell 3; have g4 := r2.cell 4; have g5 := r2.cell 5; have g6 := r2.cell 6; have g7 := r2.cell 7
      simp only [List.getElem?_cons_zero, List.getElem?_cons_succ] at g0 g1 g2 g3 g4 g5 g6 g7
      exact bodyPost_ret (v := .tuple #[.agg #[.int .u8 0, .int .u8 0, .int .u8 0, .int .u8 0, .int .u8 0, .int .u8 0, .int .u8 0, .int .u8 0], .int .i64 5]) (by simp [results, Tryz.results15, go_sem, g0, g1, g2, g3, g4, g5, g6, g7]) rfl ⟨[0, 0, 0, 0, 0, 0, 0, 0], 5, rfl, by rw [HRR.out]; exact b2.out, .inr ⟨HO.out, .inr ⟨HN2.out, rfl, rfl⟩⟩⟩
end Go.Proofs.YtcanfcpofihoeaaGreatDoor

namespace Go.Proofs.YtcanfcpofihoeaaGreatDoor
open Go.RowKit
set_option linter.unusedVariables false
set_option linter.unusedSimpArgs false
theorem linesJ_all {α : Type} {W : List UInt8 → Option α} {l : List UInt8} {xs : List α} (h : (spl 10 l).getLast? = some []) (hx : (spl 10 l).dropLast.map W = xs.map some) : linesJ W l = some xs := by
  have ha : ((spl 10 l).dropLast.all fun p => (W p).isSome) = true := by
    rw [List.all_eq_true]
    intro p hp
    have hm : W p ∈ (spl 10 l).dropLast.map W := List.mem_map_of_mem hp
    rw [hx, List.mem_map] at hm
    obtain ⟨a, _, e⟩ := hm
    rw [← e]; rfl
  unfold linesJ
  rw [if_pos ⟨h, ha⟩]
  have := filterMap_all _ ha
  rw [hx] at this
  rw [← map_some_inj this]
theorem linesJ_last {α : Type} {W : List UInt8 → Option α} {l : List UInt8} (h : (spl 10 l).getLast? ≠ some []) : linesJ W l = none := by
  unfold linesJ
  rw [if_neg (fun c => h c.1)]
theorem linesJ_bad {α : Type} {W : List UInt8 → Option α} {l p : List UInt8} (h : p ∈ (spl 10 l).dropLast) (hp : W p = none) : linesJ W l = none := by
  unfold linesJ
  rw [if_neg]
  rintro ⟨_, c⟩
  have := List.all_eq_true.1 c p h
  rw [hp] at this
  cases this
theorem take_last {α : Type} (l : List α) : l.dropLast = l.take (l.length - 1) := List.dropLast_eq_take
open Classical in
theorem lgW_two {zs : List Int} {p x y : List UInt8} (h : spl 32 p = [x, y]) : lgW zs p = if canB x = true ∧ ∃ ds, Dg zs y ds then some ((numV x : Int), valL zs (dgE zs y) zs.length) else none := by
  unfold lgW; rw [h]
theorem lgW_not {zs : List Int} {p : List UInt8} (h : (spl 32 p).length ≠ 2) : lgW zs p = none := by
  unfold lgW
  split
  · rename_i x y hs; rw [hs] at h; simp at h
  · rfl
set_option maxRecDepth 100000 in
set_option maxHeartbeats 4000000 in
theorem specReadLog_any (b nS cap : Nat) (zs : List Int) (hnS : nS = zs.length) (t : ByteArray) (ht : t.size ≤ 1048576) (w : World) (hS : Stk w b zs) : Calls Tryz.prog 4 #[.slice (some ⟨b, 0, none⟩) nS cap, .string t] w (RgR (rlR zs t.data.toList) w) := by
  obtain ⟨i0, hi0, iz0, iz1, iz2⟩ := info_parts Tryz.infoReading
  have HOK := hid (l01Ok_any b nS cap zs w hS hnS)
  cases ho : okL zs with
  | false =>
    rw [ho] at HOK
    unfold rlR
    rw [ho]
    clear ho hS hnS ht
    go_enter Tryz.func4, Tryz.ntmps4
    go_wp2_with fail
    with_reducible refine HOK.out.mono ?_
    rintro e v0 ⟨rfl, hw⟩
    subst hw
    go_wp2_with fail
    exact bodyPost_ret (v := .tuple #[.slice (some ⟨w.heap.size, 0, none⟩) 0 0, .int .i64 1]) (by simp [results, Tryz.results4, go_sem]) rfl ⟨_, rfl, OwnG.nil _ _ _ _, (Below.refl _ _).alloc (Nat.le_refl _) _⟩
  | true =>
  rw [ho] at HOK
  have hE : rlR zs t.data.toList = rdR (lgW zs) (okG zs) t.data.toList := by unfold rlR; rw [ho]; rfl
  rw [hE]
  clear hE
  obtain ⟨_, h8, hin, _, _⟩ := okL_out ho
  have HVU := hid (show ∀ e0 e1 e2 e3 e4 e5 e6 e7 W, Oct e0 e1 e2 e3 e4 e5 e6 e7 → okV zs [e0, e1, e2, e3, e4, e5, e6, e7] = true → Stk W b zs → Calls Tryz.prog 16 #[.slice (some ⟨b, 0, none⟩) nS cap, .agg #[.int .u8 e0, .int .u8 e1, .int .u8 e2, .int .u8 e3, .int .u8 e4, .int .u8 e5, .int .u8 e6, .int .u8 e7]] W fun e W' => e = .returned (.int .i64 (valL zs [e0, e1, e2, e3, e4, e5, e6, e7] zs.length)) ∧ Below W.heap.size W W' from fun e0 e1 e2 e3 e4 e5 e6 e7 W h1 h2 h3 => by
    have hlt : ltTo zs [e0, e1, e2, e3, e4, e5, e6, e7] zs.length := okD_lt (okV_out h2).2 h8 (fun j hj => by
      obtain ⟨⟨a0, _⟩, ⟨a1, _⟩, ⟨a2, _⟩, ⟨a3, _⟩, ⟨a4, _⟩, ⟨a5, _⟩, ⟨a6, _⟩, a7, _⟩ := h1
      match j, hj with
      | 0, _ => exact a0
      | 1, _ => exact a1
      | 2, _ => exact a2
      | 3, _ => exact a3
      | 4, _ => exact a4
      | 5, _ => exact a5
      | 6, _ => exact a6
      | 7, _ => exact a7)
    subst hnS
    exact (l01Value_any b zs.length cap zs e0 e1 e2 e3 e4 e5 e6 e7 W h3 (Nat.le_refl _) h8 hin h1 hlt))
  have HRDD := hid (fun (y : List UInt8) (hy : y.length ≤ 1048576) W (h : Stk W b zs) => (specReadDigits_any b nS cap zs hnS ⟨y.toArray⟩ (by show y.toArray.size ≤ _; simpa using hy) W h).mono (fun e w' hh => RdG.nine (l := y) ho hh))
  have HSS := hid (fun W (h : Below w.heap.size w W) => hS.below h hS.1)
  have HOO := hid ho; have HNS := hid hnS
  have HSP := hid (l01Split_any t ht 10 10 (by decide) w)
  have hsz : t.size = t.data.toList.length := by rw [Array.length_toList]; rfl
  obtain ⟨l, hl⟩ : ∃ l, t.data.toList = l := ⟨_, rfl⟩
  rw [hl] at HSP hsz ⊢
  have hsum := spl_sum 10 l
  have hml := fun p hp => spl_mem_len (c := 10) (l := l) (p := p) hp
  have hlast := fun h => rdR_none (ok := okG zs) (linesJ_last (W := lgW zs) (l := l) h)
  have hbad := fun p (h1 : p ∈ (spl 10 l).take ((spl 10 l).length - 1)) h2 => rdR_none (ok := okG zs) (linesJ_bad (W := lgW zs) (l := l) (by rw [take_last]; exact h1) h2)
  have hall := fun (xs : List (Int × Int)) (h : (spl 10 l).getLast? = some []) (hx : ((spl 10 l).take ((spl 10 l).length - 1)).map (lgW zs) = xs.map some) => linesJ_all (W := lgW zs) h (by rw [take_last]; exact hx)
  have hyes := fun xs h hx hk => rdR_some (ok := okG zs) (hall xs h hx) hk
  have hno := fun xs h hx hk => rdR_bad (ok := okG zs) (hall xs h hx) hk
  have hne := spl_ne 10 l
  obtain ⟨ls, hls⟩ : ∃ ps, spl 10 l = ps := ⟨_, rfl⟩
  obtain ⟨R, hR⟩ : ∃ R, rdR (lgW zs) (okG zs) l = R := ⟨_, rfl⟩
  rw [hls] at HSP hsum hml hlast hbad hall hyes hno hne
  rw [hR] at hlast hbad hyes hno ⊢
  obtain ⟨m, hm⟩ : ∃ m, ls.length = m + 1 := by
    cases ls with
    | nil => exact absurd rfl hne
    | cons a b => exact ⟨b.length, rfl⟩
  have hmb : m ≤ 1048576 := by omega
  rw [hm, Nat.add_sub_cancel] at hbad hall hyes hno
  obtain ⟨la, hla⟩ : ∃ la, ls[m]? = some la := ⟨_, List.getElem?_eq_getElem (by omega)⟩
  have hgl : ls.getLast? = some la := by rw [List.getLast?_eq_getElem?, hm, Nat.add_sub_cancel]; exact hla
  rw [hgl] at hlast hyes hno
  have HML := hid hml; have HBAD := hid hbad; have HYES := hid hyes; have HNO := hid hno; have HLAST := hid hlast; have HLA := hid hla
  have HLT := hid (show l.length ≤ 1048576 by omega)
  obtain ⟨q, hq⟩ : ∃ q, ls.length = q := ⟨_, rfl⟩
  have HM := hid (show q = m + 1 by omega)
  have HLN := hid hq
  have q1 : IntKind.i64.wrap ((q : Int) - 1) = (m : Int) := by rw [IntWalk.i64_in _ (by omega)]; omega
  have q2 : (0 : Int) ≤ (m : Int) := by omega
  have q3 : (m : Int) < (q : Int) := by omega
  have q4 : (q : Int) - 1 = (m : Int) := by omega
  clear hsum hml hlast hbad hall hyes hno hsz hls hR hl hm ht hne hgl hla hq hS hnS ho h8 hin
  go_enter Tryz.func4, Tryz.ntmps4
  go_wp2_with fail
  with_reducible refine HOK.out.mono ?_
  rintro e v0 ⟨rfl, hw⟩
  subst hw
  go_wp2_with fail
  with_reducible refine HSP.out.mono ?_
  rintro e w1 ⟨v, rfl, hO, hB⟩
  obtain ⟨g, cp, rfl, hg, hcp, hgz, hcl⟩ := ownsS_addr hO (by rw [bas_len, HLN.out]; omega)
  rw [bas_len, HLN.out]
  have HCL := hid hcl; have HB := hid hB; have HGZ := hid hgz
  have HZ := hid hB.size
  have HNB := hid ((Below.refl w1.heap.size w1).alloc (Nat.le_refl _) (.cells #[] 44))
  have hlc := HNB.out.cell (p := ⟨g, m, none⟩) hgz |>.trans (hcl m ⟨la.toArray⟩ (by simp [bas, HLA.out]))
  obtain ⟨P, hP⟩ : ∃ P, (⟨la.toArray⟩ : ByteArray) = P := ⟨_, rfl⟩
  have hPL : P.toList = la := by rw [← hP, Lib.toList_data]
  rw [hP] at hlc
  obtain ⟨b0, hb0, hb1, hb2⟩ : ∃ b0 : Bool, P.toList.isEmpty = b0 ∧ (b0 = true → la = []) ∧ (b0 = false → R = ([], 5)) := by
    refine ⟨_, rfl, fun h => ?_, fun h => HLAST.out ?_⟩
    · rw [hPL] at h; simpa using h
    · rw [hPL] at h
      intro e
      injection e with e
      rw [e] at h; cases h
  have hb3 : (P.toList == []) = b0 := by rw [← hb0]; cases P.toList <;> rfl
  have HB1 := hid hb1; have HB2 := hid hb2
  clear hO hB hcl hcp hgz hg HSP hP hPL hb1 hb2
  go_wp2_with fail
  go_loopw [7, 8, 9] (fun s5 s6 i wr => ∃ (k : Nat) (v : Value) (xs : List (Int × Int)) (b : Bool), k ≤ m ∧ i = .int .i64 k ∧ v = s5 ∧ .bool b = s6 ∧ (b = true → la = [] ∧ xs.length = k ∧ (ls.take k).map (lgW zs) = xs.map some ∧ wr.ownsRow w1.heap.size 44 2 v k (tvals xs)) ∧ (b = false → R = ([], 5)) ∧ Below w1.heap.size w1 wr) (fun _ s6 i _ => m - (intOf i).toNat)
  case atStart => exact ⟨0, _, [], b0, Nat.zero_le _, rfl, rfl, rfl, (fun h => ⟨HB1.out h, rfl, rfl, World.ownsRow_made _ _ 0 (Nat.le_refl _) (by decide) rfl⟩), HB2.out, (Below.refl _ _).alloc (Nat.le_refl _) _⟩
  case round =>
    obtain ⟨k, v, xs, bb, hk, rfl, rfl, rfl, hT, hF, hB⟩ := hrel
    have k0 : (0 : Int) ≤ (k : Int) := by omega
    have w1' : IntKind.i64.wrap ((k : Int) + 1) = (k : Int) + 1 := IntWalk.i64_in _ (by omega)
    cases bb with
    | false =>
      have HR := hid (hF rfl)
      have HBR := hid (HB.out.trans (hB.mono HZ.out))
      have hz := hB.size
      clear hT hF hB
      by_cases hkm : k < m
      · have k1 : (k : Int) + 1 < (q : Int) := by have := HM.out; omega
        go_wp2_with fail
        exact bodyPost_ret (v := .tuple #[.slice (some ⟨wr.heap.size, 0, none⟩) 0 0, .int .i64 5]) (by simp [results, Tryz.results4, go_sem]) rfl ⟨_, by rw [HR.out], by rw [HR.out]; exact OwnG.nil _ _ _ _, HBR.out.alloc HBR.out.size _⟩
      · have k1 : ¬ (k : Int) + 1 < (q : Int) := by have := HM.out; omega
        go_wp2_with fail
        exact bodyPost_ret (v := .tuple #[.slice (some ⟨wr.heap.size, 0, none⟩) 0 0, .int .i64 5]) (by simp [results, Tryz.results4, go_sem]) rfl ⟨_, by rw [HR.out], by rw [HR.out]; exact OwnG.nil _ _ _ _, HBR.out.alloc HBR.out.size _⟩
    | true =>
      obtain ⟨hla0, hxl, hA, hO⟩ := hT rfl
      by_cases hkm : k < m
      · have k1 : (k : Int) + 1 < (q : Int) := by have := HM.out; omega
        have k2 : (k : Int) < (q : Int) := by omega
        have hkl : k < ls.length := by rw [HLN.out, HM.out]; omega
        have hpk : ls[k]? = some ls[k] := List.getElem?_eq_getElem hkl
        obtain ⟨p, hp⟩ : ∃ p, ls[k] = p := ⟨_, rfl⟩
        rw [hp] at hpk
        have hpl := HML.out p (List.mem_of_getElem? hpk)
        have hpt : p ∈ ls.take m := List.mem_of_getElem? (i := k) (by rw [List.getElem?_take_of_lt hkm]; exact hpk)
        have hcell : wr.cell? ⟨g, k, none⟩ = some (.string ⟨p.toArray⟩) := (hB.cell (p := ⟨g, k, none⟩) HGZ.out).trans (HCL.out k _ (by simp [bas, hpk]))
        have HSPK := hid (fun W => l01Split_any ⟨p.toArray⟩ (by show p.toArray.size ≤ _; have := HLT.out; simp; omega) 32 32 (by decide) W)
        rw [show ((⟨p.toArray⟩ : ByteArray).data.toList) = p from rfl] at HSPK
        have HPK := hid hpk; have HO := hid hO; have HB3 := hid hB; have HA := hid hA; have HPT := hid hpt; have HXL := hid hxl; have HLA0 := hid hla0
        have HPL := hid (show p.length ≤ 1048576 by have := HLT.out; omega)
        have hz1 := hB.size
        obtain ⟨P, hP⟩ : ∃ P, (⟨p.toArray⟩ : ByteArray) = P := ⟨_, rfl⟩
        rw [hP] at hcell HSPK
        clear hA hO hB hpk hp hP hpl hkl hpt hT hF hxl hla0
        go_wp2_with fail
        with_reducible refine (HSPK.out _).mono ?_
        rintro e w2 ⟨v2, rfl, hO2, hB2⟩
        have hne2 : 1 ≤ (spl 32 p).length := by
          cases hh : spl 32 p with
          | nil => exact absurd hh (spl_ne 32 p)
          | cons => simp
        obtain ⟨g2, cp2, rfl, _, _, hgz2, hcl2⟩ := ownsS_addr hO2 (by rw [bas_len]; exact hne2)
        rw [bas_len] at *
        have HB4 := hid (HB.out.trans ((HB3.out.trans (hB2.mono hz1)).mono HZ.out))
        have hz2 : w.heap.size ≤ w2.heap.size := HB4.out.size
        have HB5 := hid (HB3.out.trans (hB2.mono hz1))
        have HO5 := hid (owns_belowL HO.out hB2)
        by_cases h2 : (spl 32 p).length = 2
        · obtain ⟨x, y, hxy⟩ : ∃ x y, spl 32 p = [x, y] := by
            match hh : spl 32 p, h2 with
            | [x, y], _ => exact ⟨x, y, rfl⟩
          have HTW := hid (lgW_two (zs := zs) hxy)
          have hx : x.length ≤ p.length := spl_mem_len (c := 32) (by rw [hxy]; simp)
          have hy : y.length ≤ p.length := spl_mem_len (c := 32) (by rw [hxy]; simp)
          rw [hxy] at hcl2 ⊢
          have cx := hcl2 0 ⟨x.toArray⟩ (by simp [bas])
          have cy := hcl2 1 ⟨y.toArray⟩ (by simp [bas])
          have HNX := hid (fun W => l01Number_any ⟨x.toArray⟩ (by show x.toArray.size ≤ _; have := HPL.out; simp; omega) W)
          have HRD := hid (HRDD.out y (by have := HPL.out; omega))
          rw [show ((⟨x.toArray⟩ : ByteArray).data.toList) = x from rfl] at HNX
          obtain ⟨X, hX⟩ : ∃ X, (⟨x.toArray⟩ : ByteArray) = X := ⟨_, rfl⟩
          obtain ⟨Y, hY⟩ : ∃ Y, (⟨y.toArray⟩ : ByteArray) = Y := ⟨_, rfl⟩
          rw [hX] at cx HNX
          rw [hY] at cy HRD
          simp only [List.length_cons, List.length_nil, Nat.zero_add, Nat.reduceAdd]
          cases hca : canB x with
          | false =>
            have HBADR := hid (HBAD.out p HPT.out (by rw [HTW.out, if_neg (fun h => by rw [hca] at h; cases h.1)]))
            rw [numR_no hca] at HNX
            clear hX hY hx hy hxy h2 hcl2 hgz2 hO2 hB2 hne2 hca
            go_wp2_with fail
            with_reducible refine (HNX.out _).mono ?_
            rintro e v4 ⟨rfl, hw⟩
            subst hw
            go_wp2_with fail
            with_reducible refine (HRD.out _ (HSS.out _ HB4.out)).mono ?_
            rintro e w4 ⟨e0, e1, e2, e3, e4, e5, e6, e7, kc, rfl, hB, hoct, hov, hk⟩
            have bA : Below w4.heap.size w4 (w4.alloc (.cells #[.int .u8 e0, .int .u8 e1, .int .u8 e2, .int .u8 e3, .int .u8 e4, .int .u8 e5, .int .u8 e6, .int .u8 e7] 39)) := (Below.refl _ _).alloc (Nat.le_refl _) _
            have hB2 := hB.trans (bA.mono hB.size)
            have rd := Row.new w4 39 [.int .u8 e0, .int .u8 e1, .int .u8 e2, .int .u8 e3, .int .u8 e4, .int .u8 e5, .int .u8 e6, .int .u8 e7]
            obtain ⟨V5, hV5⟩ : ∃ X, X = w4.alloc (.cells #[.int .u8 e0, .int .u8 e1, .int .u8 e2, .int .u8 e3, .int .u8 e4, .int .u8 e5, .int .u8 e6, .int .u8 e7] 39) := ⟨_, rfl⟩
            have HV5 := hid hV5
            rw [← hV5] at hB2 rd
            have HB6 := hid (HB4.out.trans (hB2.mono HB4.out.size)); have HB8 := hid (HB5.out.trans (hB2.mono HB5.out.size)); have RD := hid rd; have HK := hid hk; have HOV := hid hov; have HO6 := hid (owns_belowL HO5.out hB2)
            have HVV := hid (HVU.out e0 e1 e2 e3 e4 e5 e6 e7 V5 hoct hov (HSS.out _ HB6.out))
            clear hB hB2 bA rd hk hV5 hoct hov
            go_upto_region 14 with fail
            rw [← HV5.out]
            go_wp2_with fail
            go_roundw
            case rel => exact ⟨k + 1, v, xs, false, by omega, by go_num, rfl, rfl, (fun h => by cases h), (fun _ => HBADR.out), HB8.out⟩
            case measure => simp [intOf]; omega
          | true =>
            rw [numR_yes hca] at HNX
            obtain ⟨a, ha⟩ : ∃ a : Int, (numV x : Int) = a := ⟨_, rfl⟩
            rw [ha] at HNX
            have HCA := hid (And.intro hca ha)
            clear hX hY hx hy hxy h2 hcl2 hgz2 hO2 hB2 hne2 hca ha
            go_wp2_with fail
            with_reducible refine (HNX.out _).mono ?_
            rintro e v4 ⟨rfl, hw⟩
            subst hw
            go_wp2_with fail
            with_reducible refine (HRD.out _ (HSS.out _ HB4.out)).mono ?_
            rintro e w4 ⟨e0, e1, e2, e3, e4, e5, e6, e7, kc, rfl, hB, hoct, hov, hk⟩
            have bA : Below w4.heap.size w4 (w4.alloc (.cells #[.int .u8 e0, .int .u8 e1, .int .u8 e2, .int .u8 e3, .int .u8 e4, .int .u8 e5, .int .u8 e6, .int .u8 e7] 39)) := (Below.refl _ _).alloc (Nat.le_refl _) _
            have hB2 := hB.trans (bA.mono hB.size)
            have rd := Row.new w4 39 [.int .u8 e0, .int .u8 e1, .int .u8 e2, .int .u8 e3, .int .u8 e4, .int .u8 e5, .int .u8 e6, .int .u8 e7]
            obtain ⟨V5, hV5⟩ : ∃ X, X = w4.alloc (.cells #[.int .u8 e0, .int .u8 e1, .int .u8 e2, .int .u8 e3, .int .u8 e4, .int .u8 e5, .int .u8 e6, .int .u8 e7] 39) := ⟨_, rfl⟩
            have HV5 := hid hV5
            rw [← hV5] at hB2 rd
            have HB6 := hid (HB4.out.trans (hB2.mono HB4.out.size)); have HB8 := hid (HB5.out.trans (hB2.mono HB5.out.size)); have RD := hid rd; have HK := hid hk; have HOV := hid hov; have HO6 := hid (owns_belowL HO5.out hB2)
            have HVV := hid (HVU.out e0 e1 e2 e3 e4 e5 e6 e7 V5 hoct hov (HSS.out _ HB6.out))
            clear hB hB2 bA rd hk hV5 hoct hov
            go_upto_region 14 with fail
            rw [← HV5.out]
            rcases HK.out with ⟨hd, rfl⟩ | ⟨hnd, rfl⟩
            · clear HK
              obtain ⟨VV, hVV⟩ : ∃ z, valL zs [e0, e1, e2, e3, e4, e5, e6, e7] zs.length = z := ⟨_, rfl⟩
              rw [hVV] at HVV
              have HWP := hid (show lgW zs p = some (a, VV) from by rw [HTW.out, if_pos ⟨HCA.out.1, _, hd⟩, HCA.out.2, dgE_of HOO.out hd, hVV])
              clear hVV hd
              have rd := RD.out
              have c0 := rd.cell 0; have c1 := rd.cell 1; have c2 := rd.cell 2; have c3 := rd.cell 3; have c4 := rd.cell 4; have c5 := rd.cell 5; have c6 := rd.cell 6; have c7 := rd.cell 7
              simp only [List.getElem?_cons_zero, List.getElem?_cons_succ] at c0 c1 c2 c3 c4 c5 c6 c7
              clear rd
              go_wp2_with fail
              with_reducible refine HVV.out.mono ?_
              rintro e w6 ⟨rfl, hB⟩
              have HB9 := hid (HB8.out.trans (hB.mono HB8.out.size))
              have HO4 := hid ((owns_belowL HO6.out hB).alloc (.cells #[.int .i64 a, .int .i64 VV] 44))
              clear hB c0 c1 c2 c3 c4 c5 c6 c7
              have news := Row.new w6 44 [.int .i64 a, .int .i64 VV]
              have nc := hid (show ∀ j u, ([.int .i64 a, .int .i64 VV] : List Value)[j]? = some u → (w6.alloc (.cells #[.int .i64 a, .int .i64 VV] 44)).cell? ((⟨w6.heap.size, 0, none⟩ : Addr).add j) = some u from fun j u hj => by
                rw [show (⟨w6.heap.size, 0, none⟩ : Addr).add j = ⟨w6.heap.size, j, none⟩ from by unfold Addr.add; split <;> simp_all]
                exact (news.cell j).trans hj)
              have HONE := hid (show ∀ u ∈ ([.int .i64 a, .int .i64 VV] : List Value), u.oneCell' = true from by intro u hu; simp at hu; rcases hu with rfl | rfl <;> rfl)
              have HB7 := hid (show Below w1.heap.size w1 (w6.alloc (.cells #[.int .i64 a, .int .i64 VV] 44)) from HB9.out.alloc HB9.out.size _)
              have HBW := hid (show w1.heap.size ≤ (w6.alloc (.cells #[.int .i64 a, .int .i64 VV] 44)).heap.size by simp; have := HB9.out.size; omega)
              have HKB := hid (show k ≤ 1048577 by omega)
              clear news
              go_wp2_with (at_builtin; refine wpList_append_own _ rfl _ _ 23 rfl w1.heap.size 44 i0 (.agg #[.int .i64 0, .int .i64 0]) 2 16 Tryz.underlying23 hi0 iz0 iz1 iz2 rfl (by decide) _ _ _ rfl HO4.out ⟨w6.heap.size, 0, none⟩ 1 1 ([.int .i64 a, .int .i64 VV] : List Value) rfl rfl nc.out HONE.out (by have := HKB.out; unfold maxLen; omega) (by have := HKB.out; omega) HBW.out ?_; rintro v' w7 hown' hgrow -; have OWN := hid hown'; have GRW := hid hgrow; clear hown' hgrow)
              have bel := HB7.out.grown GRW.out HBW.out (fun kk e => by have := (HO4.out.lt kk e).1; omega)
              have OW := OWN.out
              rw [show tvals xs ++ [.int .i64 a, .int .i64 VV] = tvals (xs ++ [(a, VV)]) from (tvals_snocR xs a VV).symm] at OW
              have HOW := hid OW
              have HBE := hid bel
              clear bel OW
              go_wp2_with fail
              go_roundw
              case rel =>
                refine ⟨k + 1, v', xs ++ [(a, VV)], true, by omega, by go_num, rfl, rfl, (fun _ => ⟨HLA0.out, by simp [HXL.out], ?_, HOW.out⟩), (fun h => by cases h), HBE.out⟩
                have hk2 : k < ls.length := by rw [HLN.out, HM.out]; omega
                rw [List.take_add_one, HPK.out, List.map_append, HA.out, List.map_append]
                simp [HWP.out]
              case measure => simp [intOf]; omega
            · clear HK
              have HBADR := hid (HBAD.out p HPT.out (by rw [HTW.out, if_neg (fun h => hnd h.2)]))
              clear hnd
              go_wp2_with fail
              go_roundw
              case rel => exact ⟨k + 1, v, xs, false, by omega, by go_num, rfl, rfl, (fun h => by cases h), (fun _ => HBADR.out), HB8.out⟩
              case measure => simp [intOf]; omega
        · have HBADR := hid (HBAD.out p HPT.out (lgW_not h2))
          obtain ⟨q0, hq⟩ : ∃ q, (spl 32 p).length = q := ⟨_, rfl⟩
          rw [hq] at h2 ⊢
          have hq2 : ((q0 : Int) != 2) = true := by simp; omega
          have hq3 : ¬ (q0 : Int) = 2 := by omega
          clear hq h2 hcl2 hgz2 hO2 hB2 hne2
          go_wp2_with fail
          exact bodyPost_ret (v := .tuple #[.slice (some ⟨w2.heap.size, 0, none⟩) 0 0, .int .i64 5]) (by simp [results, Tryz.results4, go_sem]) rfl ⟨_, by rw [HBADR.out], by rw [HBADR.out]; exact OwnG.nil _ _ _ _, HB4.out.alloc hz2 _⟩
      · obtain rfl : k = m := by omega
        have k1 : ¬ (k : Int) + 1 < (q : Int) := by have := HM.out; omega
        have HOB := hid (OwnG.of_owns hO (by omega))
        have HB2 := hid (HB.out.trans (hB.mono HZ.out))
        have HVT := hid (l04Ok_own b nS cap zs HNS.out HOO.out _ v xs wr (HSS.out wr HB2.out) HOB.out)
        have HY := hid (fun h => HYES.out xs (by rw [hla0]) hA h)
        have HN := hid (fun h => HNO.out xs (by rw [hla0]) hA h)
        clear hA hO hB hT hF hla0
        cases hr : okG zs xs with
        | false =>
          rw [hr] at HVT
          have HBADR := hid (HN.out hr)
          clear hr
          go_wp2_with fail
          with_reducible refine HVT.out.mono ?_
          rintro e w3 ⟨rfl, hB3⟩
          have HB4 := hid (HB2.out.trans (hB3.mono HB2.out.size))
          clear hB3
          go_wp2_with fail
          exact bodyPost_ret (v := .tuple #[.slice (some ⟨w3.heap.size, 0, none⟩) 0 0, .int .i64 5]) (by simp [results, Tryz.results4, go_sem]) rfl ⟨_, by rw [HBADR.out], by rw [HBADR.out]; exact OwnG.nil _ _ _ _, HB4.out.alloc HB4.out.size _⟩
        | true =>
          rw [hr] at HVT
          have HG := hid (HY.out hr)
          clear hr
          go_wp2_with fail
          with_reducible refine HVT.out.mono ?_
          rintro e w3 ⟨rfl, hB3⟩
          have HB3 := hid hB3
          clear hB3
          go_wp2_with fail
          refine bodyPost_ret (v := .tuple #[v, .int .i64 0]) (by simp [results, Tryz.results4, go_sem]) rfl ⟨_, by rw [HG.out], ?_, HB2.out.trans (HB3.out.mono HB2.out.size)⟩
          rw [HG.out]
          exact (HOB.out.keep HB3.out).down HZ.out
end Go.Proofs.YtcanfcpofihoeaaGreatDoor
