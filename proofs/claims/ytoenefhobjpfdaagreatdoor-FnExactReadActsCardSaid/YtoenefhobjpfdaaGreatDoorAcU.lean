/- ActsText. -/
import Derived.Test.YtoenefhobjpfdaaGreatDoorAcT
namespace Go.Proofs.YtoenefhobjpfdaaGreatDoor
open Go.RowKit Go.Shelf
set_option linter.unusedVariables false
set_option linter.unusedSimpArgs false
theorem cell_ltA {w : World} {a : Addr} {v : Value} (h : w.cell? a = some v) : a.block < w.heap.size := by
  unfold World.cell? at h
  by_cases k : a.block < w.heap.size
  · exact k
  · simp [Array.getElem?_eq_none (by omega : w.heap.size ≤ a.block)] at h
set_option maxRecDepth 100000 in
set_option maxHeartbeats 4000000 in
theorem implACT_any (b n cap : Nat) (js : List (Int × Int)) (w : World) (hR : Ast w b js) (hn : n = js.length) (ht : Lib.TabIs Tryz.prog w "internal/strconv.uint64pow10" .u64 Lib.pow10Tab) (hg : 7 < w.heap.size) (a0 : Addr) (hE0 : w.cell? ⟨0, 0, none⟩ = some (.iface 109 (.pointer (some a0)))) (a1 : Addr) (hE1 : w.cell? ⟨1, 0, none⟩ = some (.iface 109 (.pointer (some a1)))) :
    Calls Tryz.prog 13 #[.slice (some ⟨b, 0, none⟩) n cap] w fun e w' => e = .returned (.string ⟨(acR js).toArray⟩) ∧ Below w.heap.size w w' := by
  cases hv : okAs js with
  | false =>
    rw [acR_bad hv]
    have HV := hid (actsErr_bad b n cap js w hR hn hv _ hE0 (cell_ltA hE0))
    clear hv hn hR ht hg hE0 hE1
    go_enter Tryz.func13, Tryz.ntmps13
    go_wp2_with (go_at_call 23; refine HV.out.mono ?_; rintro e w1 ⟨rfl, hB1⟩)
    go_ret
    exact ⟨rfl, hB1⟩
  | true =>
    by_cases h60 : 60 < n
    · rw [acR_long (by omega)]
      have HV := hid (actsErr_long b n cap js w hR hn hv h60 _ hE1 (cell_ltA hE1))
      clear hv hn hR ht hg hE0 hE1 h60
      go_enter Tryz.func13, Tryz.ntmps13
      go_wp2_with (go_at_call 23; refine HV.out.mono ?_; rintro e w1 ⟨rfl, hB1⟩)
      go_ret
      exact ⟨rfl, hB1⟩
    have h61 : n ≤ 60 := by omega
    have HV := hid (actsErr_ok b n cap js w hR hn hv h61)
    have HR := hid hR; have HN := hid hn; have HT0 := hid ht; have HG0 := hid hg
    have HTO := hid (okAs_out hv)
    have HLEN := hid (acA_len js HTO.out)
    rw [acR_yes hv (by omega), ← hn]
    clear hv hn hR ht hg hE0 hE1 h60
    go_enter Tryz.func13, Tryz.ntmps13
    go_wp2_with fail
    refine HV.out.mono ?_
    rintro e w1 ⟨rfl, hB1⟩
    have B1 := hid hB1
    have hz1 := hB1.size
    have HTB := hid (tab_belowO HT0.out hB1 HG0.out)
    have HG1 := hid (Nat.lt_of_lt_of_le HG0.out hz1)
    have HP := hid (HR.out.below hB1 HR.out.1)
    have HBN := hid (BuS.new w1)
    have HBW := hid (show Below w1.heap.size w1 (w1.alloc (.cells #[.pointer none, .slice none 0 0] 55)) from (Below.refl _ _).alloc (Nat.le_refl _) _)
    clear hB1
    go_wp2_with fail
    go_loopw [11] (fun i wr => ∃ k : Nat, k ≤ n ∧ i = .int .i64 k ∧ BuS wr w1.heap.size (acA js k) ∧ Below w1.heap.size w1 wr) (fun i _ => n - (intOf i).toNat)
    case atStart => exact ⟨0, by omega, rfl, HBN.out, HBW.out⟩
    case round =>
      obtain ⟨k, hk, rfl, hU, hB⟩ := hrel
      have hzr := hB.size
      by_cases hkn : k < n
      · have sP := HP.out.below hB HP.out.1
        have hkl : k < js.length := by have := HN.out; omega
        obtain ⟨x0, x1⟩ := sP.2.1 k hkl
        have HSN0 := acA_succ js k
        have lL := HLEN.out k (by omega)
        have l1 := acW_len (HTO.out k hkl)
        have HX0 := fun W t g => actText_any (ak js k) (an js k) (HTO.out k hkl) W t g
        unfold acP at HSN0
        obtain ⟨p, hp⟩ : ∃ y, ak js k = y := ⟨_, rfl⟩
        obtain ⟨q, hq⟩ : ∃ y, an js k = y := ⟨_, rfl⟩
        rw [hp] at x0 HX0 l1 HSN0
        rw [hq] at x1 HX0 l1 HSN0
        obtain ⟨A, hA⟩ : ∃ y, acW p q = y := ⟨_, rfl⟩
        rw [hA] at HX0 l1 HSN0
        obtain ⟨L, hL⟩ : ∃ y, acA js k = y := ⟨_, rfl⟩
        rw [hL] at hU lL HSN0
        have HX := hid HX0
        have HW := hid (fun W h => write_any w1.heap.size L A W h (by omega))
        have HSN := hid HSN0
        have k0 : (0 : Int) ≤ (k : Int) := by omega
        have k1 : (k : Int) < (n : Int) := by omega
        have w1' : IntKind.i64.wrap ((k : Int) + 1) = (k : Int) + 1 := IntWalk.i64_in _ (by omega)
        have bB := hid (show Below w1.heap.size w1 (wr.alloc (.cells #[.int .i8 p, .int .i64 q] 32)) from hB.alloc hB.size _)
        have hO := hid (show BuS (wr.alloc (.cells #[.int .i8 p, .int .i64 q] 32)) w1.heap.size L from hU.below ((Below.refl _ _).alloc (Nat.le_refl _) _) hU.1)
        clear hp hq hA HSN0 HX0 l1 hU hB sP lL hL
        go_wp2_with fail
        clear x0 x1
        refine (HX.out _ (tab_belowO HTB.out bB.out HG1.out) (by have := HG1.out; have := bB.out.size; omega)).mono ?_
        rintro e w2 ⟨rfl, hB2⟩
        have b2 := hid (bB.out.trans (hB2.mono bB.out.size))
        have hO2 := hid (hO.out.below hB2 hO.out.1)
        clear hB2
        go_wp2_with fail
        refine (HW.out w2 hO2.out).mono ?_
        rintro e w3 ⟨rfl, hU3, hB3, _⟩
        have OU := hid hU3
        have bel := hid (b2.out.trans hB3)
        clear hU3 hB3
        go_wp2_with fail
        go_roundw
        case rel => exact ⟨k + 1, by omega, by go_num, by rw [HSN.out]; exact OU.out, bel.out⟩
        case measure => simp [intOf]; omega
      · obtain rfl : k = n := by omega
        have k1 : ¬ (k : Int) < (k : Int) := by omega
        have HJ := hid (bstring_any w1.heap.size (acA js k) wr hU)
        have BB := hid hB
        clear hU hB
        go_wp2_with (go_at_call 26; refine HJ.out.mono ?_; rintro e w9 ⟨rfl, hB9⟩)
        go_ret
        exact ⟨rfl, B1.out.trans ((BB.out.trans hB9).mono hz1)⟩
theorem word_at (m : Nat) (h : 1 ≤ m ∧ m ≤ 5) : ([.string ⟨#[]⟩, .string ⟨#[112, 117, 108, 115, 101]⟩, .string ⟨#[98, 97, 99, 107]⟩, .string ⟨#[112, 114, 101, 115, 101, 116]⟩, .string ⟨#[114, 101, 115, 101, 116]⟩, .string ⟨#[116, 105, 99, 107, 101, 116]⟩] : List Value)[m]? = some (.string ⟨(wordA (m : Int)).toArray⟩) := by
  have h5 : m = 1 ∨ m = 2 ∨ m = 3 ∨ m = 4 ∨ m = 5 := by omega
  rcases h5 with rfl | rfl | rfl | rfl | rfl <;> rfl
theorem app_act3 (L W A : List UInt8) : ((⟨L.toArray⟩ : ByteArray) ++ ⟨W.toArray⟩) ++ ((⟨#[32]⟩ : ByteArray) ++ ⟨A.toArray⟩) ++ ⟨#[10]⟩ = ⟨(L ++ (W ++ [32] ++ A ++ [10])).toArray⟩ := by
  rw [show (⟨#[32]⟩ : ByteArray) = ⟨([32] : List UInt8).toArray⟩ from rfl, show (⟨#[10]⟩ : ByteArray) = ⟨([10] : List UInt8).toArray⟩ from rfl, app_mk, app_mk, app_mk, app_mk]
  simp
theorem app_act1 (L W : List UInt8) : ((⟨L.toArray⟩ : ByteArray) ++ ⟨W.toArray⟩) ++ ⟨#[10]⟩ = ⟨(L ++ (W ++ [10])).toArray⟩ := by
  rw [show (⟨#[10]⟩ : ByteArray) = ⟨([10] : List UInt8).toArray⟩ from rfl, app_mk, app_mk]
  simp
end Go.Proofs.YtoenefhobjpfdaaGreatDoor
