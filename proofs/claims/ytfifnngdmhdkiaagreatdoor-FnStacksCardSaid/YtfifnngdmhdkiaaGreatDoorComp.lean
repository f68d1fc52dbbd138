/- Complement: the program's and the model's answers. -/
import Derived.Test.YtfifnngdmhdkiaaGreatDoorMgP
import Derived.Test.YtfifnngdmhdkiaaGreatDoorSet
namespace Go.Proofs.YtfifnngdmhdkiaaGreatDoor
open Go.RowKit

/-- what k rounds have made of eight digits es -/
def cto (zs ds es : List Int) (k : Nat) : List Value := (List.range 8).map fun j => .int .u8 (if j < k then zs[j]?.getD 0 - 1 - ds[j]?.getD 0 else es[j]?.getD 0)
def cmpL (zs ds : List Int) : List Int := (List.range 8).map fun j => if j < zs.length then zs[j]?.getD 0 - 1 - ds[j]?.getD 0 else 0
theorem cto_len (zs ds es : List Int) (k : Nat) : (cto zs ds es k).length = 8 := by simp [cto]
theorem cto_get (zs ds es : List Int) (k j : Nat) (hj : j < 8) : (cto zs ds es k)[j]? = some (.int .u8 (if j < k then zs[j]?.getD 0 - 1 - ds[j]?.getD 0 else es[j]?.getD 0)) := by simp [cto, hj]
theorem cto_succ (zs ds es : List Int) (k : Nat) (hk : k < 8) : (cto zs ds es k).set k (.int .u8 (zs[k]?.getD 0 - 1 - ds[k]?.getD 0)) = cto zs ds es (k + 1) := by
  apply List.ext_getElem?
  intro j
  simp only [cto, List.getElem?_set, List.getElem?_map, List.length_map, List.length_range]
  by_cases hj : k = j
  · subst hj
    simp [hk]
  · rw [if_neg hj]
    by_cases h8 : j < 8
    · simp only [List.getElem?_range h8, Option.map_some]
      by_cases h : j < k
      · rw [if_pos h, if_pos (by omega)]
      · rw [if_neg h, if_neg (by omega)]
    · simp [List.getElem?_eq_none (show (List.range 8).length ≤ j by simp; omega)]
theorem cto_all (zs ds es : List Int) (h : ∀ j, j < 8 → zs.length ≤ j → es[j]?.getD 0 = 0) : cto zs ds es zs.length = [.int .u8 (dg (cmpL zs ds) 0), .int .u8 (dg (cmpL zs ds) 1), .int .u8 (dg (cmpL zs ds) 2), .int .u8 (dg (cmpL zs ds) 3), .int .u8 (dg (cmpL zs ds) 4), .int .u8 (dg (cmpL zs ds) 5), .int .u8 (dg (cmpL zs ds) 6), .int .u8 (dg (cmpL zs ds) 7)] := by
  have e : ∀ j, j < 8 → dg (cmpL zs ds) j = if j < zs.length then zs[j]?.getD 0 - 1 - ds[j]?.getD 0 else es[j]?.getD 0 := fun j hj => by
    unfold dg cmpL
    by_cases hz : j < zs.length
    · simp [hj, hz]
    · rw [if_neg hz, h j hj (by omega)]; simp [hj, hz]
  rw [e 0 (by omega), e 1 (by omega), e 2 (by omega), e 3 (by omega), e 4 (by omega), e 5 (by omega), e 6 (by omega), e 7 (by omega)]
  rfl
theorem cmp_bd {zs ds : List Int} {k : Nat} (hz : inB zs zs.length) (hl : ltTo zs ds zs.length) (hk : k < zs.length) : 0 ≤ zs[k]?.getD 0 - 1 - ds[k]?.getD 0 ∧ zs[k]?.getD 0 - 1 - ds[k]?.getD 0 ≤ 99 := by
  have a := hz k hk; have b := hl k hk; omega
def cmpR (zs ds : List Int) : List Int × Int := if okV zs ds then (cmpL zs ds, 0) else ([], 1)
theorem cmpR_no {zs ds : List Int} (h : okV zs ds = false) : cmpR zs ds = ([], 1) := by simp [cmpR, h]
theorem cmpR_yes {zs ds : List Int} (h : okV zs ds = true) : cmpR zs ds = (cmpL zs ds, 0) := by simp [cmpR, h]

set_option maxRecDepth 100000 in
set_option maxHeartbeats 4000000 in
theorem implComplement_any (b n cap : Nat) (zs : List Int) (d0 d1 d2 d3 d4 d5 d6 d7 : Int) (w : World) (h : Stk w b zs) (hn : n = zs.length) (_ : n ≤ cap) (ho : Oct d0 d1 d2 d3 d4 d5 d6 d7) :
    Calls Tryz.prog 22 #[.slice (some ⟨b, 0, none⟩) n cap, .agg #[.int .u8 d0, .int .u8 d1, .int .u8 d2, .int .u8 d3, .int .u8 d4, .int .u8 d5, .int .u8 d6, .int .u8 d7]] w fun e w' => e = .returned (.tuple #[.agg (#[.int .u8 (dg (cmpR zs [d0, d1, d2, d3, d4, d5, d6, d7]).1 0), .int .u8 (dg (cmpR zs [d0, d1, d2, d3, d4, d5, d6, d7]).1 1), .int .u8 (dg (cmpR zs [d0, d1, d2, d3, d4, d5, d6, d7]).1 2), .int .u8 (dg (cmpR zs [d0, d1, d2, d3, d4, d5, d6, d7]).1 3), .int .u8 (dg (cmpR zs [d0, d1, d2, d3, d4, d5, d6, d7]).1 4), .int .u8 (dg (cmpR zs [d0, d1, d2, d3, d4, d5, d6, d7]).1 5), .int .u8 (dg (cmpR zs [d0, d1, d2, d3, d4, d5, d6, d7]).1 6), .int .u8 (dg (cmpR zs [d0, d1, d2, d3, d4, d5, d6, d7]).1 7)]), .int .i64 (cmpR zs [d0, d1, d2, d3, d4, d5, d6, d7]).2]) ∧ Below w.heap.size w w' := by
  have N := hid hn; have HO := hid ho
  have hB0 : Below w.heap.size w ((w.alloc (.cells #[.int .u8 d0, .int .u8 d1, .int .u8 d2, .int .u8 d3, .int .u8 d4, .int .u8 d5, .int .u8 d6, .int .u8 d7] 30)).alloc (.cells #[.int .u8 0, .int .u8 0, .int .u8 0, .int .u8 0, .int .u8 0, .int .u8 0, .int .u8 0, .int .u8 0] 30)) := ((Below.refl w.heap.size w).alloc (Nat.le_refl _) _).alloc (by simp) _
  have hbl := h.1
  have H1 := hid (h.below hB0 h.1)
  have rD := hid ((Row.new w 30 [.int .u8 d0, .int .u8 d1, .int .u8 d2, .int .u8 d3, .int .u8 d4, .int .u8 d5, .int .u8 d6, .int .u8 d7]).alloc (.cells #[.int .u8 0, .int .u8 0, .int .u8 0, .int .u8 0, .int .u8 0, .int .u8 0, .int .u8 0, .int .u8 0] 30))
  have rR := Row.new (w.alloc (.cells #[.int .u8 d0, .int .u8 d1, .int .u8 d2, .int .u8 d3, .int .u8 d4, .int .u8 d5, .int .u8 d6, .int .u8 d7] 30)) 30 [.int .u8 0, .int .u8 0, .int .u8 0, .int .u8 0, .int .u8 0, .int .u8 0, .int .u8 0, .int .u8 0]
  simp only [World.size_alloc] at rR
  have HR := hid rR
  clear h ho rR
  cases hv : okV zs [d0, d1, d2, d3, d4, d5, d6, d7] with
  | false =>
    rw [cmpR_no hv]
    have V := hid hv
    clear hv hn
    go_enter Tryz.func22, Tryz.ntmps22
    go_wp2_with fail
    have hX := validDigits_any _ n cap zs d0 d1 d2 d3 d4 d5 d6 d7 _ H1.out N.out HO.out
    rw [V.out] at hX
    refine hX.mono ?_
    clear hX
    rintro e w1 ⟨rfl, hB1⟩
    have hz1 := hB1.size
    simp only [World.size_alloc] at hB1 hz1
    have r1 := HR.out.below hB1 (by omega)
    have g0 := r1.cell 0
    have g1 := r1.cell 1
    have g2 := r1.cell 2
    have g3 := r1.cell 3
    have g4 := r1.cell 4
    have g5 := r1.cell 5
    have g6 := r1.cell 6
    have g7 := r1.cell 7
    simp only [List.getElem?_cons_zero, List.getElem?_cons_succ] at g0 g1 g2 g3 g4 g5 g6 g7
    have k0 := r1.frozen 0
    have k1 := r1.frozen 1
    have k2 := r1.frozen 2
    have k3 := r1.frozen 3
    have k4 := r1.frozen 4
    have k5 := r1.frozen 5
    have k6 := r1.frozen 6
    have k7 := r1.frozen 7
    have r2 := hid (r1.set8 rfl (.int .u8 0) (.int .u8 0) (.int .u8 0) (.int .u8 0) (.int .u8 0) (.int .u8 0) (.int .u8 0) (.int .u8 0))
    have b2 := hid (below_set8 (g := w.heap.size + 1) (hB0.trans (hB1.mono (by omega))) (by omega) (.int .u8 0) (.int .u8 0) (.int .u8 0) (.int .u8 0) (.int .u8 0) (.int .u8 0) (.int .u8 0) (.int .u8 0))
    clear r1
    go_wp2_with fail
    clear g0 k0 g1 k1 g2 k2 g3 k3 g4 k4 g5 k5 g6 k6 g7 k7
    obtain ⟨W, hW⟩ : ∃ W, W = ((((((((w1.setCell ⟨w.heap.size + 1, 0, none⟩ (.int .u8 0)).setCell ⟨w.heap.size + 1, 1, none⟩ (.int .u8 0)).setCell ⟨w.heap.size + 1, 2, none⟩ (.int .u8 0)).setCell ⟨w.heap.size + 1, 3, none⟩ (.int .u8 0)).setCell ⟨w.heap.size + 1, 4, none⟩ (.int .u8 0)).setCell ⟨w.heap.size + 1, 5, none⟩ (.int .u8 0)).setCell ⟨w.heap.size + 1, 6, none⟩ (.int .u8 0)).setCell ⟨w.heap.size + 1, 7, none⟩ (.int .u8 0)) := ⟨_, rfl⟩
    rw [← hW] at r2 b2 ⊢
    clear hW
    have r2 := r2.out
    have g0 := r2.cell 0
    have g1 := r2.cell 1
    have g2 := r2.cell 2
    have g3 := r2.cell 3
    have g4 := r2.cell 4
    have g5 := r2.cell 5
    have g6 := r2.cell 6
    have g7 := r2.cell 7
    simp only [List.getElem?_cons_zero, List.getElem?_cons_succ] at g0 g1 g2 g3 g4 g5 g6 g7
    exact bodyPost_ret (v := .tuple #[.agg #[.int .u8 0, .int .u8 0, .int .u8 0, .int .u8 0, .int .u8 0, .int .u8 0, .int .u8 0, .int .u8 0], .int .i64 1]) (by simp [results, Tryz.results22, go_sem, g0, g1, g2, g3, g4, g5, g6, g7]) rfl ⟨rfl, b2.out⟩
  | true =>
    rw [cmpR_yes hv]
    obtain ⟨hv1, hv2⟩ := okV_out hv
    obtain ⟨_, h8, hin, _, _⟩ := okL_out hv1
    have hlt := okD_lt hv2 h8 (fun j hj => (oct_bd HO.out j hj).1)
    have HI := hid hin
    have HL := hid hlt
    have HE := hid (cto_all zs [d0, d1, d2, d3, d4, d5, d6, d7] [0, 0, 0, 0, 0, 0, 0, 0] (fun j hj _ => by
      have q : j = 0 ∨ j = 1 ∨ j = 2 ∨ j = 3 ∨ j = 4 ∨ j = 5 ∨ j = 6 ∨ j = 7 := by omega
      rcases q with rfl | rfl | rfl | rfl | rfl | rfl | rfl | rfl <;> rfl))
    have V := hid hv
    have n8 : n ≤ 8 := by omega
    clear hv hn hv1 hv2 hin hlt h8
    go_enter Tryz.func22, Tryz.ntmps22
    go_wp2_with fail
    have hX := validDigits_any _ n cap zs d0 d1 d2 d3 d4 d5 d6 d7 _ H1.out N.out HO.out
    rw [V.out] at hX
    refine hX.mono ?_
    clear hX
    rintro e w1 ⟨rfl, hB1⟩
    have hz1 := hB1.size
    simp only [World.size_alloc] at hB1 hz1
    have HR1 := hid (HR.out.below hB1 (by omega))
    have HD1 := hid (rD.out.below hB1 (by omega))
    have HS1 := hid (H1.out.below hB1 (by omega))
    have HN := hid (Row.new w1 30 [.int .u8 0, .int .u8 0, .int .u8 0, .int .u8 0, .int .u8 0, .int .u8 0, .int .u8 0, .int .u8 0])
    have HB1 := hid hB1
    clear hB1
    go_wp2_with fail
    go_loopw [16] (fun i wr => ∃ k : Nat, k ≤ n ∧ i = .int .i64 k ∧ Row wr w1.heap.size 30 (cto zs [d0, d1, d2, d3, d4, d5, d6, d7] [0, 0, 0, 0, 0, 0, 0, 0] k) ∧ Below w1.heap.size w1 wr) (fun i _ => n - (intOf i).toNat)
    case atStart => exact ⟨0, Nat.zero_le _, rfl, HN.out, (Below.refl _ w1).alloc (Nat.le_refl _) _⟩
    case round =>
      obtain ⟨k, hk, rfl, hrow, hB⟩ := hrel
      by_cases hlt : k < n
      · have hkz : k < zs.length := by rw [← N.out]; exact hlt
        have hx : wr.cell? ⟨b, k, none⟩ = some (.int .u8 (zs[k]?.getD 0)) := (hB.cell (p := ⟨b, k, none⟩) (by show b < w1.heap.size; omega)).trans (HS1.out.2.1 k hkz)
        have hd : wr.cell? ⟨w.heap.size, k, none⟩ = some (.int .u8 (([d0, d1, d2, d3, d4, d5, d6, d7] : List Int)[k]?.getD 0)) := (hB.cell (p := ⟨w.heap.size, k, none⟩) (by show w.heap.size < w1.heap.size; omega)).trans ((HD1.out.cell k).trans (oct_get d0 d1 d2 d3 d4 d5 d6 d7 k (by omega)))
        obtain ⟨old, ho⟩ : ∃ u, wr.cell? ⟨w1.heap.size, k, none⟩ = some u := ⟨_, (hrow.cell k).trans (cto_get _ _ _ _ k (by omega))⟩
        have hf := hrow.frozen k
        have hR2 := hid (hrow.set k (.int .u8 (zs[k]?.getD 0 - 1 - ([d0, d1, d2, d3, d4, d5, d6, d7] : List Int)[k]?.getD 0)))
        rw [cto_succ zs [d0, d1, d2, d3, d4, d5, d6, d7] _ k (by omega)] at hR2
        have hB2 := hid (hB.setCell (p := ⟨w1.heap.size, k, none⟩) (Nat.le_refl _) (.int .u8 (zs[k]?.getD 0 - 1 - ([d0, d1, d2, d3, d4, d5, d6, d7] : List Int)[k]?.getD 0)))
        have hzb := HI.out k hkz
        have hdb := HL.out k hkz
        clear hrow hB hkz
        obtain ⟨z, hz⟩ : ∃ z, z = zs[k]?.getD 0 := ⟨_, rfl⟩
        obtain ⟨d, hd'⟩ : ∃ d, d = ([d0, d1, d2, d3, d4, d5, d6, d7] : List Int)[k]?.getD 0 := ⟨_, rfl⟩
        rw [← hz] at hx hzb hdb hR2 hB2
        rw [← hd'] at hd hdb hR2 hB2
        clear hz hd'
        go_wp2
        go_roundw
        case rel => exact ⟨k + 1, by omega, by go_num, hR2.out, hB2.out⟩
        case measure => simp [intOf]; omega
      · obtain rfl : k = n := by omega
        rw [N.out, HE.out] at hrow
        have hzr := hB.size
        have r1 := HR1.out.below hB (by omega)
        have q0 := hrow.cell 0
        have q1 := hrow.cell 1
        have q2 := hrow.cell 2
        have q3 := hrow.cell 3
        have q4 := hrow.cell 4
        have q5 := hrow.cell 5
        have q6 := hrow.cell 6
        have q7 := hrow.cell 7
        simp only [List.getElem?_cons_zero, List.getElem?_cons_succ] at q0 q1 q2 q3 q4 q5 q6 q7
        have g0 := r1.cell 0
        have g1 := r1.cell 1
        have g2 := r1.cell 2
        have g3 := r1.cell 3
        have g4 := r1.cell 4
        have g5 := r1.cell 5
        have g6 := r1.cell 6
        have g7 := r1.cell 7
        simp only [List.getElem?_cons_zero, List.getElem?_cons_succ] at g0 g1 g2 g3 g4 g5 g6 g7
        have k0 := r1.frozen 0
        have k1 := r1.frozen 1
        have k2 := r1.frozen 2
        have k3 := r1.frozen 3
        have k4 := r1.frozen 4
        have k5 := r1.frozen 5
        have k6 := r1.frozen 6
        have k7 := r1.frozen 7
        have r2 := hid (r1.set8 rfl (.int .u8 (dg (cmpL zs [d0, d1, d2, d3, d4, d5, d6, d7]) 0)) (.int .u8 (dg (cmpL zs [d0, d1, d2, d3, d4, d5, d6, d7]) 1)) (.int .u8 (dg (cmpL zs [d0, d1, d2, d3, d4, d5, d6, d7]) 2)) (.int .u8 (dg (cmpL zs [d0, d1, d2, d3, d4, d5, d6, d7]) 3)) (.int .u8 (dg (cmpL zs [d0, d1, d2, d3, d4, d5, d6, d7]) 4)) (.int .u8 (dg (cmpL zs [d0, d1, d2, d3, d4, d5, d6, d7]) 5)) (.int .u8 (dg (cmpL zs [d0, d1, d2, d3, d4, d5, d6, d7]) 6)) (.int .u8 (dg (cmpL zs [d0, d1, d2, d3, d4, d5, d6, d7]) 7)))
        have b2 := hid (below_set8 (g := w.heap.size + 1) (hB0.trans ((HB1.out.mono (by omega)).trans (hB.mono (by omega)))) (by omega) (.int .u8 (dg (cmpL zs [d0, d1, d2, d3, d4, d5, d6, d7]) 0)) (.int .u8 (dg (cmpL zs [d0, d1, d2, d3, d4, d5, d6, d7]) 1)) (.int .u8 (dg (cmpL zs [d0, d1, d2, d3, d4, d5, d6, d7]) 2)) (.int .u8 (dg (cmpL zs [d0, d1, d2, d3, d4, d5, d6, d7]) 3)) (.int .u8 (dg (cmpL zs [d0, d1, d2, d3, d4, d5, d6, d7]) 4)) (.int .u8 (dg (cmpL zs [d0, d1, d2, d3, d4, d5, d6, d7]) 5)) (.int .u8 (dg (cmpL zs [d0, d1, d2, d3, d4, d5, d6, d7]) 6)) (.int .u8 (dg (cmpL zs [d0, d1, d2, d3, d4, d5, d6, d7]) 7)))
        clear r1 hrow hB
        go_wp2
        clear g0 k0 g1 k1 g2 k2 g3 k3 g4 k4 g5 k5 g6 k6 g7 k7 q0 q1 q2 q3 q4 q5 q6 q7
        obtain ⟨W, hW⟩ : ∃ W, W = ((((((((wr.setCell ⟨w.heap.size + 1, 0, none⟩ (.int .u8 (dg (cmpL zs [d0, d1, d2, d3, d4, d5, d6, d7]) 0))).setCell ⟨w.heap.size + 1, 1, none⟩ (.int .u8 (dg (cmpL zs [d0, d1, d2, d3, d4, d5, d6, d7]) 1))).setCell ⟨w.heap.size + 1, 2, none⟩ (.int .u8 (dg (cmpL zs [d0, d1, d2, d3, d4, d5, d6, d7]) 2))).setCell ⟨w.heap.size + 1, 3, none⟩ (.int .u8 (dg (cmpL zs [d0, d1, d2, d3, d4, d5, d6, d7]) 3))).setCell ⟨w.heap.size + 1, 4, none⟩ (.int .u8 (dg (cmpL zs [d0, d1, d2, d3, d4, d5, d6, d7]) 4))).setCell ⟨w.heap.size + 1, 5, none⟩ (.int .u8 (dg (cmpL zs [d0, d1, d2, d3, d4, d5, d6, d7]) 5))).setCell ⟨w.heap.size + 1, 6, none⟩ (.int .u8 (dg (cmpL zs [d0, d1, d2, d3, d4, d5, d6, d7]) 6))).setCell ⟨w.heap.size + 1, 7, none⟩ (.int .u8 (dg (cmpL zs [d0, d1, d2, d3, d4, d5, d6, d7]) 7))) := ⟨_, rfl⟩
        rw [← hW] at r2 b2 ⊢
        clear hW
        have r2 := r2.out
        have g0 := r2.cell 0
        have g1 := r2.cell 1
        have g2 := r2.cell 2
        have g3 := r2.cell 3
        have g4 := r2.cell 4
        have g5 := r2.cell 5
        have g6 := r2.cell 6
        have g7 := r2.cell 7
        simp only [List.getElem?_cons_zero, List.getElem?_cons_succ] at g0 g1 g2 g3 g4 g5 g6 g7
        exact bodyPost_ret (v := .tuple #[.agg #[.int .u8 (dg (cmpL zs [d0, d1, d2, d3, d4, d5, d6, d7]) 0), .int .u8 (dg (cmpL zs [d0, d1, d2, d3, d4, d5, d6, d7]) 1), .int .u8 (dg (cmpL zs [d0, d1, d2, d3, d4, d5, d6, d7]) 2), .int .u8 (dg (cmpL zs [d0, d1, d2, d3, d4, d5, d6, d7]) 3), .int .u8 (dg (cmpL zs [d0, d1, d2, d3, d4, d5, d6, d7]) 4), .int .u8 (dg (cmpL zs [d0, d1, d2, d3, d4, d5, d6, d7]) 5), .int .u8 (dg (cmpL zs [d0, d1, d2, d3, d4, d5, d6, d7]) 6), .int .u8 (dg (cmpL zs [d0, d1, d2, d3, d4, d5, d6, d7]) 7)], .int .i64 0]) (by simp [results, Tryz.results22, go_sem, g0, g1, g2, g3, g4, g5, g6, g7]) rfl ⟨rfl, b2.out⟩
end Go.Proofs.YtfifnngdmhdkiaaGreatDoor
