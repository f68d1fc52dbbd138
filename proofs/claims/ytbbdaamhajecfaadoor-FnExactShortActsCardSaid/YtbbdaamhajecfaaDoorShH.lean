/- impl.ShortActs. -/
import Derived.Test.YtbbdaamhajecfaaDoorShG
namespace Go.Proofs.YtbbdaamhajecfaaDoor
open Go.RowKit
set_option linter.unusedVariables false
set_option linter.unusedSimpArgs false
set_option maxRecDepth 100000 in
set_option maxHeartbeats 1500000 in
theorem implShortActs_any (Y n cap : Nat) (js : List (Int × Int)) (w : World) (hA : Ast w Y js) (hn : n = js.length) (a0 a1 a2 a3 : Addr) (hSN : SN w a0 a1 a2 a3) : Calls Tryd.prog 7 #[.slice (some ⟨Y, 0, none⟩) n cap] w (ShG (shL js) (shC js) w) := by
  have hl := hA.2.2
  rw [← hn] at hl
  have HE := hid (actsErr_given Y n cap js w hA hn a0 a1 a2 a3 hSN)
  have HSN := hid hSN
  by_cases ho : okAs js = true
  rotate_left
  · have hb : okAs js = false := Bool.eq_false_iff.2 ho
    rw [if_pos hb] at HE
    rw [(shC_bad hb).1, (shC_bad hb).2]
    clear ho hb
    have e1 : errV 1 a0 a1 a2 a3 = .iface 77 (.pointer (some a0)) := rfl
    rw [e1] at HE
    have HC := hid (fun W (h : SN W a0 a1 a2 a3) => codeBehind_any 1 (by omega) a0 a1 a2 a3 W h)
    rw [e1] at HC
    clear hA hn hSN e1
    go_enter Tryd.func7, Tryd.ntmps7
    go_wp2_with fail
    refine HE.out.mono ?_
    rintro e w1 ⟨rfl, hB1⟩
    have HB1 := hid hB1
    clear hB1
    go_wp2_with fail
    with_reducible refine (HC.out _ (HSN.out.below HB1.out trivial)).mono ?_
    rintro e w2 ⟨rfl, h2⟩
    subst h2
    go_wp2_with fail
    exact bodyPost_ret (v := .tuple #[.slice none 0 0, .int .i64 1]) (by simp [results, Tryd.results7, go_sem]) rfl ⟨_, rfl, OwnA.nil _ _ _ _, HB1.out⟩
  have hob : ¬ okAs js = false := by rw [ho]; decide
  rw [if_neg hob] at HE
  by_cases h6 : 60 < js.length
  · rw [if_pos h6] at HE
    rw [(shC_long ho h6).1, (shC_long ho h6).2]
    clear ho hob h6
    have e1 : errV 3 a0 a1 a2 a3 = .iface 77 (.pointer (some a1)) := rfl
    rw [e1] at HE
    have HC := hid (fun W (h : SN W a0 a1 a2 a3) => codeBehind_any 3 (by omega) a0 a1 a2 a3 W h)
    rw [e1] at HC
    clear hA hn hSN e1
    go_enter Tryd.func7, Tryd.ntmps7
    go_wp2_with fail
    refine HE.out.mono ?_
    rintro e w1 ⟨rfl, hB1⟩
    have HB1 := hid hB1
    clear hB1
    go_wp2_with fail
    with_reducible refine (HC.out _ (HSN.out.below HB1.out trivial)).mono ?_
    rintro e w2 ⟨rfl, h2⟩
    subst h2
    go_wp2_with fail
    exact bodyPost_ret (v := .tuple #[.slice none 0 0, .int .i64 3]) (by simp [results, Tryd.results7, go_sem]) rfl ⟨_, rfl, OwnA.nil _ _ _ _, HB1.out⟩
  rw [if_neg h6] at HE
  have e1 : errV 0 a0 a1 a2 a3 = .nilIface := rfl
  rw [e1] at HE
  have ha := okAs_out ho
  have HA := hid hA; have HN := hid hn; have HTO := hid ha; have HO := hid ho; have H6 := hid h6
  clear hA hn hSN e1 ha ho hob h6
  go_enter Tryd.func7, Tryd.ntmps7
  go_wp2_with fail
  refine HE.out.mono ?_
  rintro e w1 ⟨rfl, hB1⟩
  have HB1 := hid hB1
  clear hB1
  go_wp2_with fail
  go_loopw [5, 16] (fun s5 i wr => ∃ (k : Nat) (v : Value), k ≤ n ∧ i = .int .i64 k ∧ v = s5 ∧ wr.ownsRow w.heap.size 34 2 v (shF js k).length (avals (shF js k)) ∧ Below w.heap.size w wr) (fun _ i _ => n - (intOf i).toNat)
  case atStart => exact ⟨0, _, Nat.zero_le _, rfl, rfl, World.ownsRow_nil _ _ _ _, HB1.out⟩
  case round =>
    obtain ⟨k, v, hk, rfl, rfl, hO, hB⟩ := hrel
    by_cases hkn : k < n
    · have hkl : k < js.length := by have := HN.out; omega
      obtain ⟨x0, x1⟩ := (HA.out.below hB HA.out.1).2.1 k hkl
      have HOK := hid (HTO.out k hkl)
      have HL := hid (show (shF js k).length ≤ 60 from by have := shF_len js k; have := H6.out; omega)
      have HI := hid (inv_F HTO.out k (by omega))
      have HS := hid (show shF js (k + 1) = shStep (shF js k) (ak js k) (an js k) from rfl)
      have HBH := hid (fun W (h : W.ownsRow w.heap.size 34 2 v (shF js k).length (avals (shF js k))) (hb : w.heap.size ≤ W.heap.size) => behind_any w.heap.size v (shF js k) (ak js k) (an js k) W h hb HOK.out HL.out _ HI.out (by have := HN.out; have := H6.out; omega))
      obtain ⟨l2, hl2⟩ : ∃ y, shStep (shF js k) (ak js k) (an js k) = y := ⟨_, rfl⟩
      rw [hl2] at HBH HS
      obtain ⟨p, hp⟩ : ∃ y, ak js k = y := ⟨_, rfl⟩
      obtain ⟨q, hq⟩ : ∃ y, an js k = y := ⟨_, rfl⟩
      rw [hp] at x0 HBH
      rw [hq] at x1 HBH
      have k0 : (0 : Int) ≤ (k : Int) := by omega
      have k1 : (k : Int) < (n : Int) := by omega
      have w1' : IntKind.i64.wrap ((k : Int) + 1) = (k : Int) + 1 := IntWalk.i64_in _ (by omega)
      have hzr := hB.size
      have HOV := hid hO; have HB := hid hB
      clear hl2 hp hq hO hB HOK HI
      go_wp2_with fail
      refine (HBH.out _ (by first | exact HOV.out.alloc _ | exact (owns_belowP HOV.out (((Below.refl _ _).alloc (Nat.le_refl _) _).setCell (Nat.le_refl _) _))) (by first | (simp; omega) | omega)).mono ?_
      rintro e w2 ⟨v2, rfl, hO2, hB2⟩
      have HB2 := hid (show Below w.heap.size w w2 by first | exact (HB.out.alloc hzr _).trans hB2 | exact ((HB.out.alloc hzr _).setCell hzr _).trans hB2)
      have HO2 := hid hO2
      clear hO2 hB2 x0 x1
      go_wp2_with fail
      go_roundw
      case rel => exact ⟨k + 1, v2, by omega, by go_num, rfl, by rw [HS.out]; exact HO2.out, HB2.out⟩
      case measure => simp [intOf]; omega
    · obtain rfl : k = n := by omega
      have k1 : ¬ (k : Int) < (k : Int) := by omega
      have HL := hid (show (shF js k).length ≤ 60 from by have := shF_len js k; have := H6.out; have := HN.out; omega)
      have HBC := hid hB
      have HAE := hid (actsErr_own w.heap.size v (shF js k) wr (OwnA.of_owns hO (by have := HL.out; omega)) HL.out a0 a1 a2 a3 (HSN.out.below hB trivial))
      have HOW := hid (OwnA.of_owns hO (by have := HL.out; omega))
      have hI := inv_F HTO.out k (by have := HN.out; omega)
      by_cases hb : bigA (shF js k)
      · have ho2 : ¬ okAs (shF js k) = true := fun h => (okAs_big hI).1 h hb
        rw [if_neg ho2] at HAE
        have e1 : ES a0 = .iface 77 (.pointer (some a0)) := rfl
        rw [e1] at HAE
        have hC := shC_big HO.out H6.out (j := k) (by have := HN.out; omega) hb
        have HCC := hid hC
        clear hO hB hI hb ho2 e1 hC
        go_wp2_with fail
        refine HAE.out.mono ?_
        rintro e w3 ⟨rfl, hB3⟩
        have HB3 := hid (HBC.out.trans (hB3.mono HBC.out.size))
        clear hB3
        go_wp2_with fail
        exact bodyPost_ret (v := .tuple #[.slice none 0 0, .int .i64 2]) (by simp [results, Tryd.results7, go_sem]) rfl ⟨.slice none 0 0, by rw [HCC.out.1], by rw [HCC.out.2]; exact OwnA.nil _ _ _ _, HB3.out⟩
      · have ho2 : okAs (shF js k) = true := (okAs_big hI).2 hb
        rw [if_pos ho2] at HAE
        have hkj := HN.out
        subst hkj
        have hC := shC_ok HO.out H6.out hb
        have HCC := hid hC
        clear hO hB hI hb ho2 hC
        go_wp2_with fail
        refine HAE.out.mono ?_
        rintro e w3 ⟨rfl, hB3⟩
        have HB3 := hid (HBC.out.trans (hB3.mono HBC.out.size))
        have HOW3 := hid (HOW.out.keep hB3)
        clear hB3
        go_wp2_with fail
        exact bodyPost_ret (v := .tuple #[v, .int .i64 0]) (by simp [results, Tryd.results7, go_sem]) rfl ⟨v, by rw [HCC.out.1], by rw [HCC.out.2.1]; exact HOW3.out, HB3.out⟩
end Go.Proofs.YtbbdaamhajecfaaDoor
