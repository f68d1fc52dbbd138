/- Numbers drawn from bytes: the laws' own source. -/
import Derived.Test.YtdlcbfoghpoliaaOpen
import Derived.Deep.QuietTactic
import Derived.Deep.DeepCutAuto
import Derived.Laws.BitsAllLaws
import Derived.Laws.BitsLemmas
namespace Go.Proofs.Ytdlcbfoghpoliaa
open Go.RowKit
set_option linter.unusedVariables false
set_option linter.unusedSimpArgs false
/-- the block g alone is written -/
def OnlyB (g : Nat) (w w' : World) : Prop := w'.heap.size = w.heap.size ∧ (∀ q, q ≠ g → w'.heap[q]? = w.heap[q]?) ∧ Below g w w'
theorem OnlyB.refl (g : Nat) (w : World) : OnlyB g w w := ⟨rfl, fun _ _ => rfl, Below.refl _ _⟩
theorem OnlyB.set {g : Nat} {w w' : World} (h : OnlyB g w w') (j : Nat) (u : Value) : OnlyB g w (w'.setCell ⟨g, j, none⟩ u) :=
  ⟨by simpa using h.1, fun q hq => (Below.heap_setCell w' ⟨g, j, none⟩ _ q (fun e => hq e)).trans (h.2.1 q hq), h.2.2.setCell (p := ⟨g, j, none⟩) (Nat.le_refl g) _⟩
theorem OnlyB.drewN {g : Nat} {w w' : World} (h : OnlyB g w w') (n : Nat) : OnlyB g w (w'.drewN n) := ⟨h.1, h.2.1, below_drewN h.2.2 n⟩
theorem OnlyB.trans {g : Nat} {w w' w2 : World} (h : OnlyB g w w') (k : OnlyB g w' w2) : OnlyB g w w2 := ⟨k.1.trans h.1, fun q hq => (k.2.1 q hq).trans (h.2.1 q hq), h.2.2.trans k.2.2⟩
theorem OnlyB.row {g q : Nat} {w w' : World} {e : TypeId} {xs : List Value} (h : OnlyB g w w') (r : Row w q e xs) (hq : q ≠ g) : Row w' q e xs := (h.2.1 q hq).trans r
theorem OnlyB.inB {g : Nat} {w w' : World} (h : OnlyB g w w') {a : Option Addr} {len : Nat} {zs : List Int} (k : InB w a len zs) (hg : len = 0 ∨ ∃ b off, a = some ⟨b, off, none⟩ ∧ b < g) : InB w' a len zs := by
  refine ⟨k.1, k.2.1, ?_⟩
  rcases k.2.2 with h0 | ⟨b, off, rfl, hb, hc⟩
  · exact .inl h0
  · rcases hg with h0 | ⟨b', off', e, hg⟩
    · exact .inl h0
    · injection e with e; injection e with e1 e2
      subst e1
      exact .inr ⟨b, off, rfl, by rw [h.1]; exact hb, fun j hj => (h.2.2.cell (p := ⟨b, off + j, none⟩) hg).trans (hc j hj)⟩
/-- a source: its code, how far it is, its seed -/
def srcL (a : Option Addr) (len cap : Nat) (i : Nat) (s : Int) : List Value := [.slice a len cap, .int .i64 (i : Int), .int .u64 s]
theorem u64_bd (n : Int) : 0 ≤ IntKind.u64.wrap n ∧ IntKind.u64.wrap n ≤ 18446744073709551615 := by
  simp only [IntKind.wrap, IntKind.signed, IntKind.bits]
  simp
  omega
theorem u64_byte (n : Int) : ∃ x : Int, bits .and .u64 n 255 = x ∧ 0 ≤ x ∧ x ≤ 255 := by
  have h127 : (BitVec.ofInt 64 255).toNat = 2 ^ 8 - 1 := by decide
  have key : (BitVec.ofInt 64 n &&& BitVec.ofInt 64 255).toNat = (n % ((2 ^ 64 : Nat) : Int)).toNat % 2 ^ 8 := by
    rw [BitVec.toNat_and, BitVec.toNat_ofInt, h127, Nat.and_two_pow_sub_one_eq_mod]
  refine ⟨_, rfl, ?_⟩
  have e : bits .and .u64 n 255 = IntKind.u64.wrap ((BitVec.ofInt 64 n &&& BitVec.ofInt 64 255).toNat : Nat) := rfl
  rw [e, key]
  simp only [IntKind.wrap, IntKind.signed, IntKind.bits]
  simp
  omega
/-- a byte is drawn -/
def NextP (g : Nat) (a : Option Addr) (len cap i : Nat) (w : World) (e : Ending) (w' : World) : Prop := ∃ (x s : Int), 0 ≤ x ∧ x ≤ 255 ∧ 0 ≤ s ∧ s ≤ 18446744073709551615 ∧ e = .returned (.int .i64 x) ∧ Row w' g 55 (srcL a len cap (i + 1) s) ∧ OnlyB g w w'
set_option maxRecDepth 100000 in
set_option maxHeartbeats 1000000 in
theorem next_in (g : Nat) (b off len cap : Nat) (i : Nat) (s : Int) (w : World) (hR : Row w g 55 (srcL (some ⟨b, off, none⟩) len cap i s)) (hl : len ≤ 4096) (hi : i < len) (z : Int) (hz : 0 ≤ z ∧ z ≤ 255) (hx : w.cell? ⟨b, off + i, none⟩ = some (.int .u8 z)) :
    Calls Try.prog 26 #[.pointer (some ⟨g, 0, none⟩)] w (NextP g (some ⟨b, off, none⟩) len cap i w) := by
  have c0 := hR.cell 0; have c1 := hR.cell 1; have c2 := hR.cell 2
  have f0 := hR.frozen 0; have f1 := hR.frozen 1; have f2 := hR.frozen 2
  simp only [srcL, List.getElem?_cons_zero, List.getElem?_cons_succ] at c0 c1 c2
  have hi' : (i : Int) < (len : Int) := by omega
  have hi2 : (i : Int) + 1 ≤ (len : Int) := by omega
  have i0 : (0 : Int) ≤ (i : Int) := by omega
  have wz : IntKind.i64.wrap z = z := IntWalk.i64_in z (by omega)
  have HR := hid hR
  clear hR
  go_enter Try.func26, Try.ntmps26
  go_wp2_with fail
  go_quiet (fail)
  go_wp2_with fail
  go_quiet (fail)
  have wi : IntKind.i64.wrap ((i : Int) + 1) = (i : Int) + 1 := IntWalk.i64_in _ (by omega)
  go_upto_region 6 with fail
  generalize hS : IntKind.u64.wrap (_ + 1442695040888963407) = S
  have hb : 0 ≤ S ∧ S ≤ 18446744073709551615 := by rw [← hS]; exact u64_bd _
  clear hS
  go_quiet (fail)
  go_wp2_with fail
  go_ret
  refine ⟨z, S, hz.1, hz.2, hb.1, hb.2, rfl, ?_, ?_⟩
  · have h := (HR.out.set 1 (.int .i64 ((i : Int) + 1))).set 2 (.int .u64 S)
    exact h
  · exact (((OnlyB.refl g w).drewN _).set 1 _ |>.set 2 _).drewN _
set_option maxRecDepth 100000 in
set_option maxHeartbeats 1000000 in
theorem next_out (g : Nat) (a : Option Addr) (len cap : Nat) (i : Nat) (s : Int) (w : World) (hR : Row w g 55 (srcL a len cap i s)) (hl : len ≤ 4096) (hi : len ≤ i) (hi2 : i ≤ 1000000) :
    Calls Try.prog 26 #[.pointer (some ⟨g, 0, none⟩)] w (NextP g a len cap i w) := by
  have c0 := hR.cell 0; have c1 := hR.cell 1; have c2 := hR.cell 2
  have f0 := hR.frozen 0; have f1 := hR.frozen 1; have f2 := hR.frozen 2
  simp only [srcL, List.getElem?_cons_zero, List.getElem?_cons_succ] at c0 c1 c2
  have hi' : (len : Int) ≤ (i : Int) := by omega
  have hi3 : (len : Int) < (i : Int) + 1 := by omega
  have i0 : (0 : Int) ≤ (i : Int) := by omega
  have wi : IntKind.i64.wrap ((i : Int) + 1) = (i : Int) + 1 := IntWalk.i64_in _ (by omega)
  have HR := hid hR
  clear hR hi
  go_enter Try.func26, Try.ntmps26
  go_wp2_with fail
  go_quiet (fail)
  go_upto_region 6 with fail
  generalize hS : IntKind.u64.wrap (_ + 1442695040888963407) = S
  have hb : 0 ≤ S ∧ S ≤ 18446744073709551615 := by rw [← hS]; exact u64_bd _
  clear hS
  obtain ⟨x, hx, x0, x1⟩ := u64_byte (S / 1099511627776)
  have wx : IntKind.i64.wrap x = x := IntWalk.i64_in x (by omega)
  go_quiet (fail)
  go_wp2_with fail
  go_ret
  refine ⟨x, S, x0, x1, hb.1, hb.2, rfl, ?_, ?_⟩
  · have h := (HR.out.set 1 (.int .i64 ((i : Int) + 1))).set 2 (.int .u64 S)
    exact h
  · exact (((OnlyB.refl g w).drewN _).set 1 _ |>.set 2 _).drewN _
/-- a source that is ready: its code came in below it -/
def SrcAt (w : World) (g i : Nat) (zs : List Int) : Prop := ∃ a len cap s, Row w g 55 (srcL a len cap i s) ∧ InB w a len zs ∧ len ≤ 4096 ∧ (len = 0 ∨ ∃ b off, a = some ⟨b, off, none⟩ ∧ b < g)
theorem next_any (g i : Nat) (zs : List Int) (w : World) (h : SrcAt w g i zs) (hi : i ≤ 1000000) :
    Calls Try.prog 26 #[.pointer (some ⟨g, 0, none⟩)] w fun e w' => ∃ x : Int, 0 ≤ x ∧ x ≤ 255 ∧ e = .returned (.int .i64 x) ∧ SrcAt w' g (i + 1) zs ∧ OnlyB g w w' := by
  obtain ⟨a, len, cap, s, hR, hI, hl, hg⟩ := h
  by_cases hlt : i < len
  · rcases hI.2.2 with h0 | ⟨b, off, rfl, hb, hc⟩
    · omega
    have hx := hc i hlt
    have zb : 0 ≤ zs[i]?.getD 0 ∧ zs[i]?.getD 0 ≤ 255 := by
      have := hI.2.1 (zs[i]'(by rw [hI.1]; exact hlt)) (List.getElem_mem _)
      simpa [show i < zs.length from by rw [hI.1]; exact hlt] using this
    refine (next_in g b off len cap i s w hR hl hlt _ zb hx).mono ?_
    rintro e w' ⟨x, s', h0, h1, _, _, rfl, hR', hO⟩
    exact ⟨x, h0, h1, rfl, ⟨_, _, _, _, hR', hO.inB hI hg, hl, hg⟩, hO⟩
  · refine (next_out g a len cap i s w hR hl (by omega) hi).mono ?_
    rintro e w' ⟨x, s', h0, h1, _, _, rfl, hR', hO⟩
    exact ⟨x, h0, h1, rfl, ⟨_, _, _, _, hR', hO.inB hI hg, hl, hg⟩, hO⟩
set_option maxRecDepth 100000 in
set_option maxHeartbeats 1000000 in
theorem pick_any (g i : Nat) (zs : List Int) (n : Int) (w : World) (h : SrcAt w g i zs) (hi : i ≤ 900000) (hn : n ≤ 4611686018427387904) :
    Calls Try.prog 13 #[.pointer (some ⟨g, 0, none⟩), .int .i64 n] w fun e w' => ∃ (x : Int) (j : Nat), 0 ≤ x ∧ (x < n ∨ n ≤ 1 ∧ x = 0) ∧ e = .returned (.int .i64 x) ∧ i ≤ j ∧ j ≤ i + 2 ∧ SrcAt w' g j zs ∧ OnlyB g w w' := by
  by_cases h1 : n ≤ 1
  · have H := hid h
    clear h hn
    go_enter Try.func13, Try.ntmps13
    go_wp2_with fail
    go_ret
    exact ⟨0, i, Int.le_refl _, .inr ⟨h1, rfl⟩, rfl, Nat.le_refl _, by omega, H.out, OnlyB.refl _ _⟩
  · have HX := hid (next_any g i zs w h (by omega))
    have n0 : n ≠ 0 := by omega
    have HI := hid hi
    clear h hi
    by_cases h2 : 200 < n
    · go_enter Try.func13, Try.ntmps13
      go_wp2_with fail
      refine HX.out.mono ?_
      rintro e w1 ⟨x, x0, x1, rfl, hS, hO⟩
      have HX2 := hid (next_any g (i + 1) zs w1 hS (by have := HI.out; omega))
      have wx : IntKind.i64.wrap (x * 256) = x * 256 := IntWalk.i64_in _ (by omega)
      have HO := hid hO
      clear hS hO
      go_wp2_with fail
      refine HX2.out.mono ?_
      rintro e w2 ⟨y, y0, y1, rfl, hS, hO⟩
      have wy : IntKind.i64.wrap (x * 256 + y) = x * 256 + y := IntWalk.i64_in _ (by omega)
      have q0 : 0 ≤ x * 256 + y := by omega
      have e1 : (x * 256 + y).tmod n = (x * 256 + y) % n := Int.tmod_eq_emod_of_nonneg q0
      have m0 := Int.emod_nonneg (x * 256 + y) (show n ≠ 0 by omega)
      have m1 := Int.emod_lt_of_pos (x * 256 + y) (show 0 < n by omega)
      obtain ⟨r, hr⟩ : ∃ r, r = (x * 256 + y) % n := ⟨_, rfl⟩
      rw [← hr] at e1 m0 m1
      have wr : IntKind.i64.wrap r = r := IntWalk.i64_in _ (by omega)
      have HS := hid hS
      have HO2 := hid (HO.out.trans hO)
      have HRR := hid hr
      have HM := hid m1
      clear hS hO hr m1
      go_wp2_with fail
      go_ret
      exact ⟨r, i + 1 + 1, m0, .inl HM.out, by first | rfl | (rw [HRR.out]; rfl), by omega, by omega, HS.out, HO2.out⟩
    · go_enter Try.func13, Try.ntmps13
      go_wp2_with fail
      refine HX.out.mono ?_
      rintro e w1 ⟨x, x0, x1, rfl, hS, hO⟩
      have e1 : x.tmod n = x % n := Int.tmod_eq_emod_of_nonneg x0
      have m0 := Int.emod_nonneg x (show n ≠ 0 by omega)
      have m1 := Int.emod_lt_of_pos x (show 0 < n by omega)
      obtain ⟨r, hr⟩ : ∃ r, r = x % n := ⟨_, rfl⟩
      rw [← hr] at e1 m0 m1
      have wr : IntKind.i64.wrap r = r := IntWalk.i64_in _ (by omega)
      have HS := hid hS
      have HO2 := hid hO
      have HRR := hid hr
      have HM := hid m1
      clear hS hO hr m1
      go_wp2_with fail
      go_ret
      exact ⟨r, i + 1, m0, .inl HM.out, by first | rfl | (rw [HRR.out]; rfl), by omega, by omega, HS.out, HO2.out⟩
theorem InB.low {w w' : World} {a : Option Addr} {len : Nat} {zs : List Int} (h : InB w a len zs) : len = 0 ∨ ∃ b off, a = some ⟨b, off, none⟩ ∧ b < w.heap.size := by
  rcases h.2.2 with h0 | ⟨b, off, e, hb, _⟩
  · exact .inl h0
  · exact .inr ⟨b, off, e, hb⟩
set_option maxRecDepth 100000 in
set_option maxHeartbeats 1000000 in
theorem from_any (a : Option Addr) (len cap : Nat) (zs : List Int) (w : World) (h : InB w a len zs) (hl : len ≤ 4096) :
    Calls Try.prog 12 #[.slice a len cap] w fun e w' => e = .returned (.pointer (some ⟨w.heap.size, 0, none⟩)) ∧ SrcAt w' w.heap.size 0 zs ∧ Below w.heap.size w w' ∧ w'.heap.size = w.heap.size + 1 := by
  have H := hid h
  clear h
  have R := hid (Row.new w 55 (srcL a len cap 0 0))
  have B := hid (show Below w.heap.size w (w.alloc (.cells (srcL a len cap 0 0).toArray 55)) from (Below.refl _ _).alloc (Nat.le_refl _) _)
  go_enter Try.func12, Try.ntmps12
  go_wp2_with fail
  go_ret
  exact ⟨rfl, ⟨a, len, cap, 0, R.out, H.out.below B.out (Nat.le_refl _), hl, H.out.low (w' := w)⟩, B.out, by simp⟩
end Go.Proofs.Ytdlcbfoghpoliaa
