/- impl.readLastFirst. -/
import Derived.Test.YtfifnngdmhdkiaaGreatDoorSbB
import Derived.Test.YtfifnngdmhdkiaaGreatDoorSpC
import Derived.Test.YtfifnngdmhdkiaaGreatDoorTxF
import Derived.Lib.AtoiErrMem
namespace Go.Proofs.YtfifnngdmhdkiaaGreatDoor
open Go.RowKit Go.Shelf
set_option linter.unusedSimpArgs false
set_option linter.unusedVariables false
attribute [local go_sem] Oper.semAt_some
/-- the library's variables that are read -/
def LV (w : World) (tS : TypeId) (pS : Value) (tR : TypeId) (pR : Value) (m : Int) : Prop :=
  (w.var? Tryz.prog "strconv.ErrSyntax" = some #[.iface tS pS] ∧ 0 < w.heap.size) ∧ (w.var? Tryz.prog "strconv.ErrRange" = some #[.iface tR pR] ∧ 1 < w.heap.size) ∧ (w.cell? ⟨3, 0, none⟩ = some (.int .i64 m) ∧ 3 < w.heap.size)
theorem LV.below {w w' : World} {tS tR : TypeId} {pS pR : Value} {m : Int} {n : Nat} (h : LV w tS pS tR pR m) (hb : Below n w w') (hn : w.heap.size ≤ n) : LV w' tS pS tR pR m :=
  ⟨⟨var?_below hb (by kernel_rfl) (Nat.lt_of_lt_of_le h.1.2 hn) h.1.1, Nat.lt_of_lt_of_le h.1.2 hb.size⟩, ⟨var?_below hb (by kernel_rfl) (Nat.lt_of_lt_of_le h.2.1.2 hn) h.2.1.1, Nat.lt_of_lt_of_le h.2.1.2 hb.size⟩, ⟨(hb.cell (p := ⟨3, 0, none⟩) (Nat.lt_of_lt_of_le h.2.2.2 hn)).trans h.2.2.1, Nat.lt_of_lt_of_le h.2.2.2 hb.size⟩⟩
/-- what ParseUint makes of a word -/
def pw (p : ByteArray) : Option Nat := match Lib.parseUintB 8 p.data.toList with | .ok u => some u | _ => none
def pwI (p : ByteArray) : Int := ((pw p).getD 0 : Nat)
theorem parse_any (p : ByteArray) (hp : p.size ≤ 1048576) (w : World) {tS tR : TypeId} {pS pR : Value} {m : Int} (h : LV w tS pS tR pR m) :
    Calls Tryz.prog 57 #[.string p, .int .i64 10, .int .i64 8] w fun e w' => Below w.heap.size w w' ∧ ((∃ u : Nat, pw p = some u ∧ u ≤ 255 ∧ e = .returned (.tuple #[.int .u64 u, .nilIface])) ∨ (∃ x T q, pw p = none ∧ e = .returned (.tuple #[.int .u64 x, .iface T (.pointer (some q))]))) := by
  cases hh : Lib.parseUintB 8 p.data.toList with
  | ok u =>
    refine (Tryz.strconv_ParseUint_10_at8_ok p (by omega) u hh w).mono ?_
    rintro e w' ⟨rfl, hw⟩
    refine ⟨?_, .inl ⟨u, by simp [pw, hh], Lib.parseUintB_le hh, rfl⟩⟩
    rcases hw with rfl | rfl
    · exact Below.refl _ _
    · exact Lib.bytesWorld_below _ _ _
  | «syntax» =>
    refine (Tryz.strconv_ParseUint_10_at8_syntax_var p (by omega) hh tS pS w h.1.1).mono ?_
    rintro e w' ⟨N, rfl, _, _, hB⟩
    exact ⟨hB, .inr ⟨_, _, _, by simp [pw, hh], rfl⟩⟩
  | range =>
    refine (Tryz.strconv_ParseUint_10_at8_range_var p (by omega) hh tR pR w h.2.1.1).mono ?_
    rintro e w' ⟨N, rfl, _, _, hB⟩
    exact ⟨hB, .inr ⟨_, _, _, by simp [pw, hh], rfl⟩⟩
/-- the numbers of the words, the last one first -/
def rlL {n : Nat} (ss : List ByteArray) (pre : List (Fin n)) : List Int := pre.map fun x => pwI (sg ss (n - 1 - x.1))
theorem split_size (sep : ByteArray) (save : Nat) : ∀ (k : Nat) (s p : ByteArray), p ∈ Lib.splitB sep save k s → p.size ≤ s.size
  | 0, s, p, h => by simp [Lib.splitB] at h; subst h; exact Nat.le_refl _
  | k + 1, s, p, h => by
    unfold Lib.splitB at h
    split at h
    · simp at h; subst h; exact Nat.le_refl _
    · simp only [List.mem_cons] at h
      rcases h with rfl | h
      · simp [ByteArray.size_extract]; omega
      · have := split_size sep save k _ p h
        simp [ByteArray.size_extract] at this; omega
theorem rlL_all (ss : List ByteArray) (n : Nat) (hn : n = ss.length) : rlL ss (List.finRange n) = ss.reverse.map pwI := by
  subst hn
  apply List.ext_getElem?
  intro i
  simp only [rlL, List.getElem?_map]
  by_cases h : i < ss.length
  · simp [h, sg, List.getElem?_reverse]
    rw [List.getElem?_eq_getElem (by omega)]; rfl
  · simp [h]
/-- what the words of a text are cut into at most nine -/
def w9 (t : ByteArray) : List ByteArray := Lib.splitB ⟨#[58]⟩ 0 (min 9 (t.size + 1) - 1) t
def RlG (t : ByteArray) (w : World) (e : Ending) (w' : World) : Prop := ∃ v, e = .returned v ∧ Below w.heap.size w w' ∧ (((w9 t).all fun p => (pw p).isSome) = true ∧ w'.ownsRow w.heap.size 5 1 v (w9 t).length (((w9 t).reverse.map pwI).map (Value.int .u8)) ∨ ((w9 t).all fun p => (pw p).isSome) = false ∧ v = .slice none 0 0)
set_option maxRecDepth 100000 in
set_option maxHeartbeats 4000000 in
theorem implRlf_any (t : ByteArray) (ht : t.size ≤ 1048576) (w : World) {tS tR : TypeId} {pS pR : Value} {m : Int} (hLV : LV w tS pS tR pR m) :
    Calls Tryz.prog 38 #[.string t] w (RlG t w) := by
  obtain ⟨i0, hi, iz0, iz1, iz2⟩ := info_parts Tryz.infoU8
  have hm : 1 ≤ 8 := by omega
  have g1 : Fence.wide.fn 55 := trivial
  have g4 : Fence.wide.fn 57 := trivial
  have g3 : Fence.wide.fn 56 := trivial
  have HLV := hid hLV
  have HSP := hid (fun W (h : LV W tS pS tR pR m) => show Calls Tryz.prog 55 #[.string t, .string ⟨#[58]⟩, .int .i64 9] W fun e w' => e = .returned (.slice (some ⟨W.heap.size, 0, none⟩) (w9 t).length (min 9 (t.size + 1))) ∧ w' = W.alloc (.cells (Lib.cellsOf (w9 t) (min 9 (t.size + 1))) 9) from Tryz.strings_SplitN t ⟨#[58]⟩ 9 m W (by omega) h.2.2.1 (by decide) (by omega) (by omega))
  have hsl9 : (w9 t).length ≤ 9 := by have := Lib.splitB_length_le ⟨#[58]⟩ 0 (min 9 (t.size + 1) - 1) t; unfold w9; omega
  have hsz9 : ∀ p ∈ w9 t, p.size ≤ 1048576 := fun p hp => Nat.le_trans (split_size _ _ _ _ p hp) ht
  obtain ⟨ss, hss⟩ : ∃ ss, w9 t = ss := ⟨_, rfl⟩
  unfold RlG
  rw [hss] at HSP hsl9 hsz9 ⊢
  obtain ⟨cp, hcp⟩ : ∃ cp, min 9 (t.size + 1) = cp := ⟨_, rfl⟩
  rw [hcp] at HSP
  obtain ⟨n, hn⟩ : ∃ n, ss.length = n := ⟨_, rfl⟩
  rw [hn] at HSP hsl9 ⊢
  have HN := hid hn.symm; have HSZ := hid hsz9
  have b0 : Below w.heap.size w ((w.alloc (.cells #[.slice none 0 0] 22)).alloc (.cells #[.slice none 0 0] 22)) := ((Below.refl _ _).alloc (Nat.le_refl _) _).alloc (by simp) _
  have HSPW := hid (HSP.out _ (hLV.below b0 (Nat.le_refl _)))
  clear hss hcp hn hsz9 hLV ht b0 HSP
  refine (callsIn_wide (n := 8)).1 ?_
  refine callsIn_of_wp_marks Tryz.func38 rfl trivial ?_ rfl
  simp only [Tryz.ntmps38, List.size_toArray, List.length_cons, List.length_nil, Nat.reduceAdd, Nat.reduceSub, Array.replicate_succ, Array.replicate_zero, List.push_toArray, List.append_toArray, List.nil_append, List.cons_append]
  gi_wp2_with (first | (gi_at_call 55; refine (callsIn_wide.2 HSPW.out).mono ?_; rintro e w1 ⟨rfl, rfl⟩) | (gi_at_call 56; refine (bs_in Fence.wide _ trivial rfl _ _ _ _).mono ?_; rintro e w' ⟨rfl, rfl⟩))
  obtain ⟨B, hBB⟩ : ∃ B, w.heap.size = B := ⟨_, rfl⟩
  have qR := Row.new w 22 [.slice none 0 0]
  have qL := Row.new (w.alloc (.cells #[.slice none 0 0] 22)) 22 [.slice none 0 0]
  have qS := Row.new ((w.alloc (.cells #[.slice none 0 0] 22)).alloc (.cells #[.slice none 0 0] 22)) 9 (ss.map Value.string ++ List.replicate (cp - ss.length) (Value.string ByteArray.empty))
  have qB := Row.new (((w.alloc (.cells #[.slice none 0 0] 22)).alloc (.cells #[.slice none 0 0] 22)).alloc (.cells (Lib.cellsOf ss cp) 9)) 73 [.slice (some ⟨w.heap.size + 1 + 1, 0, none⟩) n cp]
  simp only [World.size_alloc] at qL qS qB
  have qR' := ((qR.alloc (.cells #[.slice none 0 0] 22)).alloc (.cells (Lib.cellsOf ss cp) 9)).alloc (.cells #[.slice (some ⟨w.heap.size + 1 + 1, 0, none⟩) n cp] 73)
  have qL' := (qL.alloc (.cells (Lib.cellsOf ss cp) 9)).alloc (.cells #[.slice (some ⟨w.heap.size + 1 + 1, 0, none⟩) n cp] 73)
  have qS' := qS.alloc (.cells #[.slice (some ⟨w.heap.size + 1 + 1, 0, none⟩) n cp] 73)
  have bV : Below w.heap.size w ((((w.alloc (.cells #[.slice none 0 0] 22)).alloc (.cells #[.slice none 0 0] 22)).alloc (.cells (Lib.cellsOf ss cp) 9)).alloc (.cells #[.slice (some ⟨w.heap.size + 1 + 1, 0, none⟩) n cp] 73)) := ((((Below.refl _ w).alloc (Nat.le_refl _) _).alloc (by simp) _).alloc (by simp; omega) _).alloc (by simp; omega) _
  have sV : ((((w.alloc (.cells #[.slice none 0 0] 22)).alloc (.cells #[.slice none 0 0] 22)).alloc (.cells (Lib.cellsOf ss cp) 9)).alloc (.cells #[.slice (some ⟨w.heap.size + 1 + 1, 0, none⟩) n cp] 73)).heap.size = w.heap.size + 1 + 1 + 1 + 1 := by simp
  have qS2 : Row ((((w.alloc (.cells #[.slice none 0 0] 22)).alloc (.cells #[.slice none 0 0] 22)).alloc (.cells (Lib.cellsOf ss cp) 9)).alloc (.cells #[.slice (some ⟨w.heap.size + 1 + 1, 0, none⟩) n cp] 73)) (w.heap.size + 1 + 1) 9 (ss.map Value.string ++ List.replicate (cp - ss.length) (Value.string ByteArray.empty)) := qS'
  obtain ⟨V, hV⟩ : ∃ V, V = (((w.alloc (.cells #[.slice none 0 0] 22)).alloc (.cells #[.slice none 0 0] 22)).alloc (.cells (Lib.cellsOf ss cp) 9)).alloc (.cells #[.slice (some ⟨w.heap.size + 1 + 1, 0, none⟩) n cp] 73) := ⟨_, rfl⟩
  rw [← hV] at qR' qL' qS2 qB bV sV ⊢
  clear hV qR qL qS qS' HSPW
  rw [hBB] at qR' qL' qS2 qB bV sV ⊢
  have cB := qB.cell 0
  simp only [List.getElem?_cons_zero] at cB
  have hsl : ∀ g, g = B + 1 + 1 ∨ g = B + 1 + 1 + 1 → g < V.heap.size := fun g hg => by rcases hg with rfl | rfl <;> omega
  have hcV : ∀ j, j < n → V.cell? ⟨B + 1 + 1, j, none⟩ = some (.string (sg ss j)) := fun j hj => by
    rw [qS2.cell j, List.getElem?_append_left (by simp; rw [← HN.out]; exact hj), List.getElem?_map, List.getElem?_eq_getElem (by rw [← HN.out]; exact hj)]
    unfold sg
    rw [List.getElem?_eq_getElem (by rw [← HN.out]; exact hj)]
    rfl
  have HSL := hid hsl
  have HLV2 := hid (show ∀ W, Below B w W → LV W tS pS tR pR m from fun W h => HLV.out.below h (by omega))
  have HB := hid hBB
  have HW := hid (show w.heap.size ≤ B by omega)
  have HBL := hid (Nat.le_of_eq hBB.symm)
  clear qB qS2 hsl HLV hBB
  refine wpIn_rangeFunc_ownH rfl hm (gf := 67) (lb := #[.pointer (some ⟨B + 1 + 1 + 1, 0, none⟩)]) rfl trivial (enters_of Tryz.func67 (by kernel_rfl) rfl)
    (bs_stops Fence.wide 7 trivial rfl (by omega) (B + 1 + 1 + 1) (B + 1 + 1) n cp ss HN.out (by omega) V (by omega) (by omega) cB hcV) KeepB.trans (keepB_b HSL.out) (Below.refl _ _) (fun _ => rfl)
    (fun pre W => (∃ v, Row W (B + 1) 22 [v] ∧ W.ownsRow V.heap.size 5 1 v pre.length ((rlL ss pre).map (Value.int .u8)) ∧ Row W B 22 [.slice none 0 0] ∧ ∀ y ∈ pre, (pw (sg ss (n - 1 - y.1))).isSome = true) ∧ (Below B w W ∧ V.heap.size ≤ W.heap.size))
    (fun c pre W => (c = .ret ∧ (∃ j, j < n ∧ pw (sg ss j) = none) ∧ Row W B 22 [.slice none 0 0]) ∧ Below B w W)
    (OwnFrom.and (Own.from (fun s A B row hs hg hr => by obtain ⟨v, h2, h3, h1, h0⟩ := hs; exact ⟨v, row_kept h2 hg hr, owns_kept h3 hg hr, row_kept h1 hg hr, h0⟩) _) (OwnFrom.and (ownFrom_below HBL.out (by omega)) (fun s A B row hs hg hr => Nat.le_trans hs hg.4)))
    (fun c => OwnFrom.and (Own.from (fun s A B row hs hg hr => ⟨hs.1, hs.2.1, row_kept hs.2.2 hg hr⟩) _) (ownFrom_below HBL.out (by omega)))
    ⟨⟨.slice none 0 0, qL', ⟨rfl, .inl ⟨rfl, rfl⟩⟩, qR', fun y hy => by cases hy⟩, bV, Nat.le_refl _⟩
    (fun x a' W => a' = { tmps := #[.string t, undef, .pointer (some ⟨B, 0, none⟩), .pointer (some ⟨B + 1, 0, none⟩), .slice (some ⟨B + 1 + 1, 0, none⟩) n cp, undef, .string (sg ss (n - 1 - x.1)), undef, undef, .string t, .slice (some ⟨B + 1 + 1, 0, none⟩) n cp, .slice (some ⟨B + 1 + 1, 0, none⟩) n cp, .func (.func 67) #[] #[.pointer (some ⟨B + 1 + 1 + 1, 0, none⟩)], .int .i64 ((n - 1 - x.1 : Nat) : Int), .string (sg ss (n - 1 - x.1)), undef, undef, undef, undef, undef, undef, undef, undef, undef, undef, undef, undef, undef], defers := [] })
    (fun x a' => Own.from (fun s A B row hs hg hr => hs) _) ?assign ?body ?done ?stop
  case assign =>
    rintro l pre x W K ⟨⟨v, h2, h3, h1, h0⟩, h4, h6⟩ hK
    have hAA := hK _ W ((KeepsOthers.refl W).from _) (KeepB.refl _ W) ⟨⟨v, h2, h3, h1, h0⟩, h4, h6⟩ rfl
    clear hK
    simp only [bsA]
    gi_wp2
    exact hAA
  case body =>
    rintro l pre x a' W _ _ ⟨⟨v, h2, h3, h1, h0⟩, h4, h6⟩ rfl hlen
    have hx := x.2
    have hdn : n - 1 - x.1 < n := by omega
    have g5 : (Fence.wide.inRound l).fn 57 := trivial
    have HEY := hid (show rlL ss (pre ++ [x]) = rlL ss pre ++ [pwI (sg ss (n - 1 - x.1))] by simp [rlL])
    have hmem : sg ss (n - 1 - x.1) ∈ ss := by
      unfold sg
      rw [List.getElem?_eq_getElem (by rw [← HN.out]; exact hdn)]
      exact List.getElem_mem _
    have HPA := hid (parse_any (sg ss (n - 1 - x.1)) (HSZ.out _ hmem) W (HLV2.out W h4))
    have HPX := hid (show ∀ y ∈ pre, (pw (sg ss (n - 1 - y.1))).isSome = true from h0)
    have HDN := hid hdn
    have lw := h4.size
    cases hpw : pw (sg ss (n - 1 - x.1)) with
    | none =>
      have HP2 := hid (HPA.out.mono (fun e w' h => show Below W.heap.size W w' ∧ ∃ y T q, e = .returned (.tuple #[.int .u64 y, .iface T (.pointer (some q))]) from by
        refine ⟨h.1, ?_⟩
        rcases h.2 with ⟨u, h5, _⟩ | ⟨y, T, q, _, h5⟩
        · rw [hpw] at h5; cases h5
        · exact ⟨y, T, q, h5⟩))
      have HNO := hid (show ∃ j, j < n ∧ pw (sg ss j) = none from ⟨_, hdn, hpw⟩)
      obtain ⟨P, hP⟩ : ∃ P, sg ss (n - 1 - x.1) = P := ⟨_, rfl⟩
      rw [hP] at HP2 ⊢
      have H4 := hid h4
      clear hP hpw hmem HPA HEY h0 h2 h3 h4
      gi_wp2_with (gi_at_call 57; refine (CallsIn.inRound l (callsIn_wide.2 HP2.out)).mono ?_; rintro e w6 ⟨hB6, y, T, q, rfl⟩; have r6 := h1.below hB6 h1.lt; have c6 := r6.cell 0; have f6 := r6.frozen 0; simp only [List.getElem?_cons_zero] at c6)
      exact ⟨((keepsOthers_of hB6).trans (KeepsOthers.setCell _ _ _)).from _, ⟨rfl, HNO.out, r6.set 0 (.slice none 0 0)⟩, (H4.out.trans (hB6.mono (by have := HW.out; omega))).setCell (p := ⟨B, 0, none⟩) (Nat.le_refl _) _⟩
    | some u =>
      have HP2 := hid (HPA.out.mono (fun e w' h => show Below W.heap.size W w' ∧ e = .returned (.tuple #[.int .u64 u, .nilIface]) ∧ u ≤ 255 from by
        refine ⟨h.1, ?_⟩
        rcases h.2 with ⟨u', h5, h7, h8⟩ | ⟨y, T, q, h5, _⟩
        · rw [hpw] at h5; injection h5 with h5; subst h5; exact ⟨h8, h7⟩
        · rw [hpw] at h5; cases h5))
      have HU := hid (show pwI (sg ss (n - 1 - x.1)) = (u : Int) by unfold pwI; rw [hpw]; rfl)
      have HSO := hid (show ∀ y ∈ pre ++ [x], (pw (sg ss (n - 1 - y.1))).isSome = true from fun y hy => by
        rcases List.mem_append.1 hy with hy | hy
        · exact HPX.out y hy
        · simp at hy; subst hy; rw [hpw]; rfl)
      rw [HU.out] at HEY
      obtain ⟨P, hP⟩ : ∃ P, sg ss (n - 1 - x.1) = P := ⟨_, rfl⟩
      rw [hP] at HP2 ⊢
      obtain ⟨U, hU⟩ : ∃ U : Int, (u : Int) = U := ⟨_, rfl⟩
      by_cases hu255 : u ≤ 255
      · rw [hU] at HP2 HEY
        have wU : IntKind.u8.wrap U = U := by simp only [IntKind.wrap, IntKind.signed, IntKind.bits]; simp; omega
        have H4 := hid h4; have HLN := hid hlen
        obtain ⟨E, hE⟩ : ∃ E, rlL ss pre = E := ⟨_, rfl⟩
        rw [hE] at h3 HEY
        clear hP hpw hmem HPA h0 h4 hU hE hu255
        gi_wp2_with (first | (gi_at_call 57; refine (CallsIn.inRound l (callsIn_wide.2 HP2.out)).mono ?_; rintro e w6 ⟨hB6, rfl, _⟩; have r2 := h2.below hB6 h2.lt; have cL := r2.cell 0; simp only [List.getElem?_cons_zero] at cL; have O6 := (owns_belowP h3 hB6).alloc (.cells #[.int .u8 U] 5); have news := Row.new w6 5 [.int .u8 U]; have n0 := news.cell 0; simp only [List.getElem?_cons_zero] at n0; have ka2 := r2.alloc (.cells #[.int .u8 U] 5); have ka1 := (h1.below hB6 h1.lt).alloc (.cells #[.int .u8 U] 5); have hz6 := hB6.size; have lL := r2.lt) | (gi_at_builtin; refine wpListIn_append_own _ rfl _ _ 22 rfl V.heap.size 5 i0 (.int .u8 0) 1 1 Tryz.underlying22 hi iz0 iz1 iz2 rfl (by decide) _ _ _ rfl O6 ⟨w6.heap.size, 0, none⟩ 1 1 [.int .u8 U] rfl rfl (by intro j u hj; match j, hj with | 0, hj => simp at hj; subst hj; simp [Addr.add, n0]) (by intro u hu; simp at hu; subst hu; rfl) (by have := HLN.out; unfold maxLen; omega) (by have := HLN.out; omega) (by simp; omega) ?_; intro v' w7 hown' hgrow _; obtain ⟨sa, sl, sc, rfl⟩ : ∃ a l c, v' = Value.slice a l c := (by rcases hown'.2 with ⟨h, _⟩ | ⟨g', cap', cur, h, _⟩; exact ⟨_, _, _, h⟩; exact ⟨_, _, _, h⟩); have kb2 := ka2.grown' hgrow (owns_lt O6 (by omega)); have cL7 := kb2.cell 0; have fL7 := kb2.frozen 0; simp only [List.getElem?_cons_zero] at cL7))
        have hz7 := hgrow.size
        simp only [World.size_alloc] at hz7
        have ko : KeepsOthers (w6.alloc (.cells #[.int .u8 U] 5)) w7 := KeepsOthers.of_grownBy hgrow (fun j o hj ho => by
          rcases O6.2 with ⟨rfl, _⟩ | ⟨g', cap', cur, rfl, q2, q3, _⟩
          · cases hj
          · have : g' = j := Option.some.inj hj
            subst this
            rw [q3] at ho
            cases ho
            rfl)
        have kb : KeepB (fun g => g = B + 1 + 1 ∨ g = B + 1 + 1 + 1) W (w7.setCell ⟨B + 1, 0, none⟩ (.slice sa sl sc)) := fun g hg => by
          have hgV := HSL.out g hg
          have e1 := hB6.block g (by omega)
          have e2 : (w6.alloc (.cells #[.int .u8 U] 5)).heap[g]? = w6.heap[g]? := Below.heap_alloc _ _ _ (by omega)
          have e3 := hgrow.block g (by simp; omega) (owns_lt O6 hgV)
          have e4 := Below.heap_setCell w7 ⟨B + 1, 0, none⟩ (.slice sa sl sc) g (by rcases hg with rfl | rfl <;> simp <;> omega)
          rw [e4, e3, e2, e1]
        have bel : Below B w (w7.setCell ⟨B + 1, 0, none⟩ (.slice sa sl sc)) := ((((H4.out.trans (hB6.mono (by have := HW.out; omega))).alloc (by omega) (.cells #[.int .u8 U] 5)).grown hgrow (by simp; omega) (fun k e => by have := owns_lt O6 (g := k); by_cases hk : B ≤ k; exact hk; exact absurd e.symm (this (by omega))))).setCell (p := ⟨B + 1, 0, none⟩) (by show B ≤ B + 1; omega) _
        have kb1 := (ka1.grown' hgrow (owns_lt O6 (by omega))).other (a := ⟨B + 1, 0, none⟩) (by show B + 1 ≠ B; omega) (.slice sa sl sc)
        exact ⟨((((keepsOthers_of hB6).trans (KeepsOthers.alloc _ _)).trans ko).trans (KeepsOthers.setCell _ _ _)).from _, kb, ⟨.slice sa sl sc, kb2.set 0 (.slice sa sl sc), by rw [HEY.out, List.map_append, List.length_append]; exact owns_set hown' (by show B + 1 < V.heap.size; omega) _, kb1, HSO.out⟩, bel, by simp; omega⟩
      · exact absurd (Lib.parseUintB_le (B := 8) (l := (sg ss (n - 1 - x.1)).data.toList) (u := u) (by
          unfold pw at hpw
          cases hh : Lib.parseUintB 8 (sg ss (n - 1 - x.1)).data.toList with
          | ok z => rw [hh] at hpw; injection hpw with hpw; rw [hpw]
          | «syntax» => rw [hh] at hpw; cases hpw
          | range => rw [hh] at hpw; cases hpw)) (by simpa using hu255)
  case done =>
    rintro D ys W hD rfl ⟨⟨v, h2, h3, h1, h0⟩, h4, h6⟩ hK
    have cL := h2.cell 0
    have c1 := h1.cell 0
    have f1 := h1.frozen 0
    simp only [List.getElem?_cons_zero] at cL c1
    have hrl : rlL ss (List.finRange n) = ss.reverse.map pwI := rlL_all ss n HN.out
    rw [hrl, List.length_finRange] at h3
    have hall : (ss.all fun p => (pw p).isSome) = true := by
      rw [List.all_eq_true]
      intro p hp
      obtain ⟨j, hj, rfl⟩ := List.getElem_of_mem hp
      have hjn : j < n := by rw [HN.out]; exact hj
      have := h0 ⟨n - 1 - j, by omega⟩ (List.mem_finRange _)
      simp only at this
      rw [show n - 1 - (n - 1 - j) = j by omega] at this
      unfold sg at this
      rw [List.getElem?_eq_getElem hj] at this
      exact this
    obtain ⟨sa, sl, sc, rfl⟩ : ∃ a l c, v = Value.slice a l c := by
      rcases h3.2 with ⟨h, _⟩ | ⟨g', cap', cur, h, _⟩
      · exact ⟨_, _, _, h⟩
      · exact ⟨_, _, _, h⟩
    have hDB : D ≠ B := fun e => by
      subst e
      unfold Row at h1
      rw [h1] at hK
      cases hK
    have hK2 : (W.setCell ⟨B, 0, none⟩ (.slice sa sl sc)).heap[D]? = some (.deferred (some [])) := (Below.heap_setCell W ⟨B, 0, none⟩ (.slice sa sl sc) D (fun e => hDB e)).trans hK
    have rF := row_kept (h1.set 0 (.slice sa sl sc)) (grownBy_putObj' _ D (.deferred none)) (fun r e => by cases e; exact ⟨_, hK2, rfl⟩)
    have cF := rF.cell 0
    simp only [List.set_cons_zero, List.getElem?_cons_zero] at cF
    have HO := hid (owns_kept (owns_set h3 (a := ⟨B, 0, none⟩) (by show B < V.heap.size; omega) (.slice sa sl sc)) (grownBy_putObj' _ D (.deferred none)) (fun r e => by cases e; exact ⟨_, hK2, rfl⟩))
    have bF := hid ((h4.setCell (p := ⟨B, 0, none⟩) (Nat.le_refl _) (.slice sa sl sc)).trans (show Below B _ _ from belowK_b (w := w) (n₀ := B) HBL.out _ D (.deferred (some [])) (.deferred none) (by have := HW.out; omega) hK2 rfl rfl))
    have HALL := hid hall
    have HBV := hid (show B ≤ V.heap.size by omega)
    clear h2 h3 h1 h0 rF
    gi_wp2
    refine ⟨by simp, .inl ⟨_, _, rfl, run_takeDeferred hK2, ?_⟩⟩
    refine ⟨.slice sa sl sc, by simp [results, Tryz.f38, go_sem, cF], .slice sa sl sc, rfl, by rw [HB.out]; exact bF.out, .inl ⟨HALL.out, ?_⟩⟩
    rw [HB.out]
    obtain ⟨o1, o2⟩ := HO.out
    refine ⟨o1, ?_⟩
    rcases o2 with o2 | ⟨g, cap, cur, q1, q2, q3⟩
    · exact .inl o2
    · exact .inr ⟨g, cap, cur, q1, Nat.le_trans HBV.out q2, q3⟩
  case stop =>
    rintro D c pre W hD ⟨j, hj, rfl⟩ ⟨⟨rfl, ⟨q, hq1, hq2⟩, hrow⟩, hB5⟩ hK
    have rF := row_kept hrow (grownBy_putObj' _ D (.deferred none)) (fun r e => by cases e; exact ⟨_, hK, rfl⟩)
    have cF := rF.cell 0
    simp only [List.getElem?_cons_zero] at cF
    have HNO := hid (show (ss.all fun p => (pw p).isSome) = false from by
      rw [List.all_eq_false]
      have hq3 : q < ss.length := by rw [← HN.out]; exact hq1
      refine ⟨ss[q], List.getElem_mem _, ?_⟩
      unfold sg at hq2
      rw [List.getElem?_eq_getElem hq3] at hq2
      simp only [Option.getD_some] at hq2
      rw [hq2]; simp)
    gi_wp2
    refine ⟨by simp, .inl ⟨_, _, rfl, run_takeDeferred hK, ?_⟩⟩
    exact ⟨.slice none 0 0, by simp [results, Tryz.f38, go_sem, cF], _, rfl, by rw [HB.out]; exact hB5.trans (belowK_b (w := w) (n₀ := B) HBL.out _ D _ _ (by have := HW.out; omega) hK rfl rfl), .inr ⟨HNO.out, rfl⟩⟩
end Go.Proofs.YtfifnngdmhdkiaaGreatDoor
