/- Texts of stacks and of digits, made and read. -/
import Derived.Test.YtfifnngdmhdkiaaGreatDoorRdE
import Derived.Test.YtfifnngdmhdkiaaGreatDoorTxF
import Derived.Test.YtfifnngdmhdkiaaGreatDoorCuA
import Derived.Test.YtfifnngdmhdkiaaGreatDoorRatio
namespace Go.Proofs.YtfifnngdmhdkiaaGreatDoor
open Go.RowKit
set_option linter.unusedVariables false
set_option linter.unusedSimpArgs false
theorem txS_lenK {zs : List Int} (h : okL zs = true) : (txS zs).length ≤ 100 := by
  rw [txS_yes h]
  obtain ⟨h1n, h8, hin, _, _⟩ := okL_out h
  have := txT_len zs (fun _ => 1) 4 (fun k hk => by
    have a := hin k hk
    unfold txP
    rw [padZ_len]
    obtain ⟨n, hn⟩ : ∃ n : Nat, ug zs k = (n : Int) := ⟨(ug zs k).toNat, by unfold ug; omega⟩
    have q : (Lib.itoa (ug zs k)).length ≤ 4 := by
      rw [hn, itoa_nat]
      exact dec_len 3 n (by unfold ug at hn; omega)
    show max 1 (Lib.itoa (ug zs k)).length ≤ 4
    omega)
  omega
theorem txD_lenK {zs : List Int} {d0 d1 d2 d3 d4 d5 d6 d7 : Int} (hv : okV zs [d0, d1, d2, d3, d4, d5, d6, d7] = true) (ho : Oct d0 d1 d2 d3 d4 d5 d6 d7) : (txT (List.take zs.length [d0, d1, d2, d3, d4, d5, d6, d7]) (wdD zs)).length ≤ 100 := by
  obtain ⟨hv1, hv2⟩ := okV_out hv
  obtain ⟨h1n, h8, hin, _, _⟩ := okL_out hv1
  have hlt := okD_lt hv2 h8 (fun j hj => (oct_bd ho j hj).1)
  have hll : (List.take zs.length [d0, d1, d2, d3, d4, d5, d6, d7]).length = zs.length := by simp; omega
  have := txT_len (List.take zs.length [d0, d1, d2, d3, d4, d5, d6, d7]) (wdD zs) 2 (fun k hk => by
    rw [hll] at hk
    have a := hin k hk; have b := hlt k hk; have c := oct_bd ho k (by omega)
    have e : ug (List.take zs.length [d0, d1, d2, d3, d4, d5, d6, d7]) k = ([d0, d1, d2, d3, d4, d5, d6, d7] : List Int)[k]?.getD 0 := ug_take _ _ _ hk
    unfold txP
    rw [padZ_len, e]
    have q := itoa2 (([d0, d1, d2, d3, d4, d5, d6, d7] : List Int)[k]?.getD 0) (by omega); have r := wdD_le zs k a
    omega)
  rw [hll] at this
  omega
theorem ownB_stk {w : World} {base : Nat} {v : Value} {zs : List Int} (h : OwnB w base v zs) (hn : 1 ≤ zs.length) (hz : ∀ z ∈ zs, 0 ≤ z ∧ z ≤ 255) (hl : zs.length ≤ 1048576) : ∃ g cp, v = .slice (some ⟨g, 0, none⟩) zs.length cp ∧ Stk w g zs := by
  obtain ⟨a, cap, rfl, _, h3⟩ := h
  rcases h3 with rfl | ⟨g, rest, rfl, _, hr⟩
  · simp at hn
  · exact ⟨g, cap, rfl, hr.lt, fun j hj => OwnB.cell hr j hj, hz, hl⟩
set_option maxHeartbeats 1000000 in
theorem st_text (B n cap : Nat) (Z : List Int) (hn : n = Z.length) (W : World) (hS : Stk W B Z) {tS tR : TypeId} {pS pR : Value} {m : Int} (hL : LW W tS pS tR pR m) :
    Calls Tryz.prog 12 #[.slice (some ⟨B, 0, none⟩) n cap] W (GivesB W (.string ⟨(txS Z).toArray⟩)) := implST_any B n cap Z W hS hn hL.2.1 hL.2.2
theorem rs_stack (Z : List Int) (h : okL Z = true) (W : World) {tS tR : TypeId} {pS pR : Value} {m : Int} (hL : LW W tS pS tR pR m) :
    Calls Tryz.prog 11 #[.string ⟨(txS Z).toArray⟩] W fun e w' => ∃ g cp, e = .returned (.tuple #[.slice (some ⟨g, 0, none⟩) Z.length cp, .int .i64 0]) ∧ Stk w' g Z ∧ Below W.heap.size W w' := by
  obtain ⟨h1, h8, hin, _, _⟩ := okL_out h
  have hl := txS_lenK h
  have := implReadStack_any ⟨(txS Z).toArray⟩ (by show (txS Z).toArray.size ≤ 1048576; simp; omega) W hL
  rw [show (⟨(txS Z).toArray⟩ : ByteArray).data.toList = txS Z by simp, rsR_yes (stkR_of h)] at this
  refine this.mono ?_
  rintro e w' ⟨v, rfl, ho, hB⟩
  have hz : ∀ z ∈ Z, 0 ≤ z ∧ z ≤ 255 := fun z hz => by have := (okL_mem h).2.2 z hz; omega
  have ho2 : OwnB w' W.heap.size v Z := ho
  obtain ⟨g, cp, rfl, hk⟩ := ownB_stk ho2 (by omega) hz (by omega)
  exact ⟨g, cp, rfl, hk, hB⟩
theorem dt_text (B n cap : Nat) (Z : List Int) (hn : n = Z.length) (h : okL Z = true) (v : Int) (W : World) (hS : Stk W B Z) {tS tR : TypeId} {pS pR : Value} {m : Int} (hL : LW W tS pS tR pR m) :
    Calls Tryz.prog 14 #[.slice (some ⟨B, 0, none⟩) n cap, .agg #[.int .u8 (dg (dgL Z v) 0), .int .u8 (dg (dgL Z v) 1), .int .u8 (dg (dgL Z v) 2), .int .u8 (dg (dgL Z v) 3), .int .u8 (dg (dgL Z v) 4), .int .u8 (dg (dgL Z v) 5), .int .u8 (dg (dgL Z v) 6), .int .u8 (dg (dgL Z v) 7)]] W (GivesB W (.string ⟨(txD Z (dgL Z v)).toArray⟩)) := by
  have := implDT_any B n cap Z (dg (dgL Z v) 0) (dg (dgL Z v) 1) (dg (dgL Z v) 2) (dg (dgL Z v) 3) (dg (dgL Z v) 4) (dg (dgL Z v) 5) (dg (dgL Z v) 6) (dg (dgL Z v) 7) W hS hn (octL Z v h)
  rw [dgs_listC] at this
  exact this
set_option maxHeartbeats 1000000 in
theorem rd_digits (B n cap : Nat) (Z : List Int) (hn : n = Z.length) (h : okL Z = true) (v : Int) (W : World) (hS : Stk W B Z) {tS tR : TypeId} {pS pR : Value} {m : Int} (hL : LW W tS pS tR pR m) :
    Calls Tryz.prog 13 #[.slice (some ⟨B, 0, none⟩) n cap, .string ⟨(txD Z (dgL Z v)).toArray⟩] W (GivesB W (.tuple #[.agg #[.int .u8 (dg (dgL Z v) 0), .int .u8 (dg (dgL Z v) 1), .int .u8 (dg (dgL Z v) 2), .int .u8 (dg (dgL Z v) 3), .int .u8 (dg (dgL Z v) 4), .int .u8 (dg (dgL Z v) 5), .int .u8 (dg (dgL Z v) 6), .int .u8 (dg (dgL Z v) 7)], .int .i64 0])) := by
  obtain ⟨h1, h8, hin, _, _⟩ := okL_out h
  have hov := okV_dgL Z v h
  have hD : Dg Z (txD Z (dgL Z v)) (dgL Z v) := Dg.of (dgL_len Z v) (fun j hj => by have := dgL_bd Z v hin j hj; unfold ug; omega) hov
  have hl := txD_lenK (zs := Z) (by rw [dgs_listC]; exact hov) (octL Z v h)
  rw [dgs_listC, ← txD_yes hov] at hl
  have := implReadDigits_any B n cap Z hn ⟨(txD Z (dgL Z v)).toArray⟩ (by show (txD Z (dgL Z v)).toArray.size ≤ 1048576; simp; omega) W hS hL
  rw [show (⟨(txD Z (dgL Z v)).toArray⟩ : ByteArray).data.toList = txD Z (dgL Z v) by simp] at this
  refine this.mono ?_
  rintro e w' ⟨ds, c, rfl, hB, ⟨ho, _⟩ | ⟨_, ⟨hd, rfl⟩ | ⟨hx, _⟩⟩⟩
  · rw [h] at ho; cases ho
  · have e1 := hd.uniq h hD
    subst e1
    have e2 : ((dgL Z v).map (Value.int .u8)).toArray = #[.int .u8 (dg (dgL Z v) 0), .int .u8 (dg (dgL Z v) 1), .int .u8 (dg (dgL Z v) 2), .int .u8 (dg (dgL Z v) 3), .int .u8 (dg (dgL Z v) 4), .int .u8 (dg (dgL Z v) 5), .int .u8 (dg (dgL Z v) 6), .int .u8 (dg (dgL Z v) 7)] := by
      rw [show (dgL Z v).map (Value.int .u8) = [.int .u8 (dg (dgL Z v) 0), .int .u8 (dg (dgL Z v) 1), .int .u8 (dg (dgL Z v) 2), .int .u8 (dg (dgL Z v) 3), .int .u8 (dg (dgL Z v) 4), .int .u8 (dg (dgL Z v) 5), .int .u8 (dg (dgL Z v) 6), .int .u8 (dg (dgL Z v) 7)] from by rw [← dgs_listC Z v]; rfl]
    exact ⟨by rw [e2], hB⟩
  · exact absurd ⟨_, hD⟩ hx
end Go.Proofs.YtfifnngdmhdkiaaGreatDoor
