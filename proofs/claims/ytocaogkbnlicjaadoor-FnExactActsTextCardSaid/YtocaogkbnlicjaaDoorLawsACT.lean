/- The walk of the law ActsText. -/
import Derived.Test.YtocaogkbnlicjaaDoorAcU
import Derived.Test.YtocaogkbnlicjaaDoorActL
namespace Go.Proofs.YtocaogkbnlicjaaDoor
open Go.RowKit
set_option maxHeartbeats 4000000 in
theorem law_FnExactActsText (a : Option Addr) (len cap : Nat) (js : List (Int × Int))  (w : World) (hl : len ≤ 9223372036854775807) (h : InAc w a len js) (ht : Lib.TabIs Tryd.prog w "internal/strconv.uint64pow10" .u64 Lib.pow10Tab) (hg : 4 < w.heap.size) (a0 : Addr) (hE0 : w.cell? ⟨0, 0, none⟩ = some (.iface 205 (.pointer (some a0)))) (a1 : Addr) (hE1 : w.cell? ⟨1, 0, none⟩ = some (.iface 205 (.pointer (some a1)))) :
    Calls Tryd.prog 6 #[.slice a len cap] w fun e w' => e = .returned (.bool true) ∧ Below w.heap.size w w' := by
  by_cases hs : 1048576 < len
  · clear h
    go_enter Tryd.func6, Tryd.ntmps6
    go_wp2_with (go_at_call 22; refine (szActs_no a len cap _ hs hl).mono ?_; rintro e w' ⟨rfl, rfl⟩)
    go_ret
    exact ⟨rfl, Below.refl _ _⟩
  have hle : len ≤ 1048576 := by omega
  have HZ := hid (fun w => szActs_ok a len cap w hle)
  have hz : (0 : Int) ≤ 1048576 - (len : Int) := by omega
  have hI := hid h
  have hn : Hid (len = js.length) := hid h.1.symm
  clear h hs hl 
  have HS := hid (fun b w1 (h : Ast w1 b js) => specACT_any b len len js w1 h hn.out)
  have HM := hid (fun b w1 (h : Ast w1 b js) t g s0 s1 => implACT_any b len len js w1 h hn.out t g a0 s0 a1 s1)
  have HTB := hid ht
  have HE0 := hid hE0
  have HE1 := hid hE1
  have HG := hid hg
  obtain ⟨T, hT⟩ : ∃ T : ByteArray, ⟨(acR js).toArray⟩ = T := ⟨_, rfl⟩
  rw [hT] at HS HM
  clear ht hg hT hE0 hE1
  all_goals
    go_enter Tryd.func6, Tryd.ntmps6
    go_wp2_with fail
    refine (HZ.out _).mono ?_
    rintro e w' ⟨rfl, rfl⟩
    go_wp2_with fail
    refine (toActs_any a len cap js _ hI.out hle).mono ?_
    rintro e w1 ⟨rfl, hB1, hS1, hg1⟩
    go_wp2_with fail
    refine (HS.out _ w1 hS1).mono ?_
    rintro e w2 ⟨rfl, hB2⟩
    have hz2 := hB2.size
    have b2 := hid (hB1.trans (hB2.mono (by omega)))
    have hI2 := hid (hI.out.below b2.out (Nat.le_refl _))
    clear hB1 hB2 hS1
    go_wp2_with fail
    refine (toActs_any a len cap js _ hI2.out hle).mono ?_
    rintro e w3 ⟨rfl, hB3, hS3, hg3⟩
    have hz3 := hB3.size
    go_wp2_with fail
    refine (HM.out _ w3 hS3 (tab_belowO HTB.out (b2.out.trans (hB3.mono (by omega))) HG.out) (by have := HG.out; have := b2.out.size; omega) (((b2.out.trans (hB3.mono (by omega))).cell (p := ⟨0, 0, none⟩) (cell_ltA HE0.out)).trans HE0.out) (((b2.out.trans (hB3.mono (by omega))).cell (p := ⟨1, 0, none⟩) (cell_ltA HE1.out)).trans HE1.out)).mono ?_
    rintro e w4 ⟨rfl, hB4⟩
    have hz4 := hB4.size
    have b4 := hid (b2.out.trans ((hB3.mono (by omega)).trans (hB4.mono (by omega))))
    have hI4 := hid (hI.out.below b4.out (Nat.le_refl _))
    have hS4 := hid (hS3.below hB4 (by omega))
    clear hB3 hB4 hS3
    go_wp2_with fail
    refine (toActs_any a len cap js _ hI4.out hle).mono ?_
    rintro e w7 ⟨rfl, hB7, hS7, hg7⟩
    have hz7 := hB7.size
    have hS8 := hid (hS4.out.below hB7 (by omega))
    go_wp2_with fail
    refine (eqActs_same _ _ len len len js w7 hS8.out hS7 hn.out).mono ?_
    rintro e w8 ⟨rfl, hB8⟩
    go_wp2_with fail
    go_ret
    exact ⟨rfl, b4.out.trans ((hB7.mono (by omega)).trans (hB8.mono (by omega)))⟩

end Go.Proofs.YtocaogkbnlicjaaDoor
