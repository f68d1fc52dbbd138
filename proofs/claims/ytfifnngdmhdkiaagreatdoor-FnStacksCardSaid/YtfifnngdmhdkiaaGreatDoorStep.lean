/- StepUp and StepDown: a count of 1 or -1, and how many wheels have moved. -/
import Derived.Test.YtfifnngdmhdkiaaGreatDoorAddT
namespace Go.Proofs.YtfifnngdmhdkiaaGreatDoor
open Go.RowKit

def movN (es ds : List Int) : Nat → Int
  | 0 => 0
  | k + 1 => movN es ds k + if es[k]?.getD 0 = ds[k]?.getD 0 then 0 else 1
theorem movN_bd (es ds : List Int) : ∀ k, 0 ≤ movN es ds k ∧ movN es ds k ≤ k
  | 0 => by simp [movN]
  | k + 1 => by
    have := movN_bd es ds k
    simp only [movN]
    split <;> omega
theorem movN_eq {es ds : List Int} {k : Nat} (h : es[k]?.getD 0 = ds[k]?.getD 0) : movN es ds (k + 1) = movN es ds k := by simp [movN, h]
theorem movN_ne {es ds : List Int} {k : Nat} (h : ¬ es[k]?.getD 0 = ds[k]?.getD 0) : movN es ds (k + 1) = movN es ds k + 1 := by simp [movN, h]
def stepR (zs ds : List Int) (c : Int) : List Int × Int × Int := if (addR zs ds c).2.2 = 0 then ((addR zs ds c).1, movN (addR zs ds c).1 ds zs.length, 0) else ([0, 0, 0, 0, 0, 0, 0, 0], 0, (addR zs ds c).2.2)
theorem stepR_no {zs ds : List Int} (c : Int) (h : okV zs ds = false) : stepR zs ds c = ([0, 0, 0, 0, 0, 0, 0, 0], 0, 1) := by simp [stepR, addR_no c h]
theorem stepR_yes {zs ds es : List Int} {c q : Int} (h : addR zs ds c = (es, q, 0)) : stepR zs ds c = (es, movN es ds zs.length, 0) := by simp [stepR, h]
theorem list8 {l : List Int} (h : l.length = 8) : ∃ e0 e1 e2 e3 e4 e5 e6 e7 : Int, l = [e0, e1, e2, e3, e4, e5, e6, e7] := by
  match l, h with
  | [a, b, c, d, e, f, g, i], _ => exact ⟨a, b, c, d, e, f, g, i, rfl⟩

set_option maxRecDepth 100000 in
set_option maxHeartbeats 4000000 in
theorem implStep_no (b n cap : Nat) (zs : List Int) (d0 d1 d2 d3 d4 d5 d6 d7 c : Int) (w : World) (h : Stk w b zs) (hn : n = zs.length) (hcap : n ≤ cap) (ho : Oct d0 d1 d2 d3 d4 d5 d6 d7) (hv : okV zs [d0, d1, d2, d3, d4, d5, d6, d7] = false) :
    Calls Tryz.prog 45 #[.slice (some ⟨b, 0, none⟩) n cap, .agg #[.int .u8 d0, .int .u8 d1, .int .u8 d2, .int .u8 d3, .int .u8 d4, .int .u8 d5, .int .u8 d6, .int .u8 d7], .int .i64 c] w fun e w' => e = .returned (.tuple #[.agg #[.int .u8 0, .int .u8 0, .int .u8 0, .int .u8 0, .int .u8 0, .int .u8 0, .int .u8 0, .int .u8 0], .int .i64 0, .int .i64 1]) ∧ Below w.heap.size w w' := by
  have hB0 : Below w.heap.size w ((w.alloc (.cells #[.int .u8 d0, .int .u8 d1, .int .u8 d2, .int .u8 d3, .int .u8 d4, .int .u8 d5, .int .u8 d6, .int .u8 d7] 30)).alloc (.cells #[.int .u8 0, .int .u8 0, .int .u8 0, .int .u8 0, .int .u8 0, .int .u8 0, .int .u8 0, .int .u8 0] 30)) := ((Below.refl w.heap.size w).alloc (Nat.le_refl _) _).alloc (by simp) _
  have H1 := hid (h.below hB0 h.1)
  have rR := Row.new (w.alloc (.cells #[.int .u8 d0, .int .u8 d1, .int .u8 d2, .int .u8 d3, .int .u8 d4, .int .u8 d5, .int .u8 d6, .int .u8 d7] 30)) 30 [.int .u8 0, .int .u8 0, .int .u8 0, .int .u8 0, .int .u8 0, .int .u8 0, .int .u8 0, .int .u8 0]
  simp only [World.size_alloc] at rR
  have HR := hid rR
  have HA := hid (fun (w : World) (hS : Stk w b zs) => implAddTo_any b n cap zs d0 d1 d2 d3 d4 d5 d6 d7 c w hS hn hcap ho)
  rw [addR_no c hv] at HA
  have HA : Hid (∀ (w : World), Stk w b zs → Calls Tryz.prog 62 #[.slice (some ⟨b, 0, none⟩) n cap, .agg #[.int .u8 d0, .int .u8 d1, .int .u8 d2, .int .u8 d3, .int .u8 d4, .int .u8 d5, .int .u8 d6, .int .u8 d7], .int .i64 c] w fun e w' => e = .returned (.tuple #[.agg #[.int .u8 0, .int .u8 0, .int .u8 0, .int .u8 0, .int .u8 0, .int .u8 0, .int .u8 0, .int .u8 0], .int .i64 0, .int .i64 1]) ∧ Below w.heap.size w w') := HA
  clear h hn ho hv rR
  go_enter Tryz.func45, Tryz.ntmps45
  go_wp2_with fail
  refine (HA.out _ H1.out).mono ?_
  rintro e w1 ⟨rfl, hB1⟩
  have hz1 := hB1.size
  simp only [World.size_alloc] at hB1 hz1
  have hBa : Below w1.heap.size w1 (w1.alloc (.cells #[.int .u8 0, .int .u8 0, .int .u8 0, .int .u8 0, .int .u8 0, .int .u8 0, .int .u8 0, .int .u8 0] 30)) := (Below.refl _ _).alloc (Nat.le_refl _) _
  have r1 := ((HR.out.below hB1 (by omega)).below hBa (by omega))
  have g0 := r1.cell 0; have k0 := r1.frozen 0; have g1 := r1.cell 1; have k1 := r1.frozen 1; have g2 := r1.cell 2; have k2 := r1.frozen 2; have g3 := r1.cell 3; have k3 := r1.frozen 3; have g4 := r1.cell 4; have k4 := r1.frozen 4; have g5 := r1.cell 5; have k5 := r1.frozen 5; have g6 := r1.cell 6; have k6 := r1.frozen 6; have g7 := r1.cell 7; have k7 := r1.frozen 7
  simp only [List.getElem?_cons_zero, List.getElem?_cons_succ] at g0 g1 g2 g3 g4 g5 g6 g7
  have r2 := hid (r1.set8 rfl (.int .u8 0) (.int .u8 0) (.int .u8 0) (.int .u8 0) (.int .u8 0) (.int .u8 0) (.int .u8 0) (.int .u8 0))
  have b2 := hid (below_set8 (g := w.heap.size + 1) (hB0.trans ((hB1.mono (by omega)).trans (hBa.mono (by omega)))) (by omega) (.int .u8 0) (.int .u8 0) (.int .u8 0) (.int .u8 0) (.int .u8 0) (.int .u8 0) (.int .u8 0) (.int .u8 0))
  clear r1
  go_wp2_with fail
  clear g0 k0 g1 k1 g2 k2 g3 k3 g4 k4 g5 k5 g6 k6 g7 k7
  obtain ⟨W, hW⟩ : ∃ W, W = (((((((((w1.alloc (.cells #[.int .u8 0, .int .u8 0, .int .u8 0, .int .u8 0, .int .u8 0, .int .u8 0, .int .u8 0, .int .u8 0] 30)).setCell ⟨w.heap.size + 1, 0, none⟩ (.int .u8 0)).setCell ⟨w.heap.size + 1, 1, none⟩ (.int .u8 0)).setCell ⟨w.heap.size + 1, 2, none⟩ (.int .u8 0)).setCell ⟨w.heap.size + 1, 3, none⟩ (.int .u8 0)).setCell ⟨w.heap.size + 1, 4, none⟩ (.int .u8 0)).setCell ⟨w.heap.size + 1, 5, none⟩ (.int .u8 0)).setCell ⟨w.heap.size + 1, 6, none⟩ (.int .u8 0)).setCell ⟨w.heap.size + 1, 7, none⟩ (.int .u8 0)) := ⟨_, rfl⟩
  rw [← hW] at r2 b2 ⊢
  clear hW
  have r2 := r2.out
  have g0 := r2.cell 0; have g1 := r2.cell 1; have g2 := r2.cell 2; have g3 := r2.cell 3; have g4 := r2.cell 4; have g5 := r2.cell 5; have g6 := r2.cell 6; have g7 := r2.cell 7
  simp only [List.getElem?_cons_zero, List.getElem?_cons_succ] at g0 g1 g2 g3 g4 g5 g6 g7
  exact bodyPost_ret (v := .tuple #[.agg #[.int .u8 0, .int .u8 0, .int .u8 0, .int .u8 0, .int .u8 0, .int .u8 0, .int .u8 0, .int .u8 0], .int .i64 0, .int .i64 1]) (by simp [results, Tryz.results45, go_sem, g0, g1, g2, g3, g4, g5, g6, g7]) rfl ⟨rfl, b2.out⟩

set_option maxRecDepth 100000 in
set_option maxHeartbeats 4000000 in
theorem implStep_yes (b n cap : Nat) (zs : List Int) (d0 d1 d2 d3 d4 d5 d6 d7 c : Int) (w : World) (h : Stk w b zs) (hn : n = zs.length) (hcap : n ≤ cap) (h8 : n ≤ 8) (ho : Oct d0 d1 d2 d3 d4 d5 d6 d7) (e0 e1 e2 e3 e4 e5 e6 e7 q : Int) (he : Oct e0 e1 e2 e3 e4 e5 e6 e7) (hA : addR zs [d0, d1, d2, d3, d4, d5, d6, d7] c = ([e0, e1, e2, e3, e4, e5, e6, e7], q, 0)) :
    Calls Tryz.prog 45 #[.slice (some ⟨b, 0, none⟩) n cap, .agg #[.int .u8 d0, .int .u8 d1, .int .u8 d2, .int .u8 d3, .int .u8 d4, .int .u8 d5, .int .u8 d6, .int .u8 d7], .int .i64 c] w fun e w' => e = .returned (.tuple #[.agg #[.int .u8 e0, .int .u8 e1, .int .u8 e2, .int .u8 e3, .int .u8 e4, .int .u8 e5, .int .u8 e6, .int .u8 e7], .int .i64 (movN [e0, e1, e2, e3, e4, e5, e6, e7] [d0, d1, d2, d3, d4, d5, d6, d7] n), .int .i64 0]) ∧ Below w.heap.size w w' := by
  have hB0 : Below w.heap.size w ((w.alloc (.cells #[.int .u8 d0, .int .u8 d1, .int .u8 d2, .int .u8 d3, .int .u8 d4, .int .u8 d5, .int .u8 d6, .int .u8 d7] 30)).alloc (.cells #[.int .u8 0, .int .u8 0, .int .u8 0, .int .u8 0, .int .u8 0, .int .u8 0, .int .u8 0, .int .u8 0] 30)) := ((Below.refl w.heap.size w).alloc (Nat.le_refl _) _).alloc (by simp) _
  have H1 := hid (h.below hB0 h.1)
  have hbl := h.1
  have rD := hid ((Row.new w 30 [.int .u8 d0, .int .u8 d1, .int .u8 d2, .int .u8 d3, .int .u8 d4, .int .u8 d5, .int .u8 d6, .int .u8 d7]).alloc (.cells #[.int .u8 0, .int .u8 0, .int .u8 0, .int .u8 0, .int .u8 0, .int .u8 0, .int .u8 0, .int .u8 0] 30))
  have rR := Row.new (w.alloc (.cells #[.int .u8 d0, .int .u8 d1, .int .u8 d2, .int .u8 d3, .int .u8 d4, .int .u8 d5, .int .u8 d6, .int .u8 d7] 30)) 30 [.int .u8 0, .int .u8 0, .int .u8 0, .int .u8 0, .int .u8 0, .int .u8 0, .int .u8 0, .int .u8 0]
  simp only [World.size_alloc] at rR
  have HR := hid rR
  have HA := hid (fun (w : World) (hS : Stk w b zs) => implAddTo_any b n cap zs d0 d1 d2 d3 d4 d5 d6 d7 c w hS hn hcap ho)
  rw [hA] at HA
  have HA : Hid (∀ (w : World), Stk w b zs → Calls Tryz.prog 62 #[.slice (some ⟨b, 0, none⟩) n cap, .agg #[.int .u8 d0, .int .u8 d1, .int .u8 d2, .int .u8 d3, .int .u8 d4, .int .u8 d5, .int .u8 d6, .int .u8 d7], .int .i64 c] w fun e w' => e = .returned (.tuple #[.agg #[.int .u8 e0, .int .u8 e1, .int .u8 e2, .int .u8 e3, .int .u8 e4, .int .u8 e5, .int .u8 e6, .int .u8 e7], .int .i64 q, .int .i64 0]) ∧ Below w.heap.size w w') := HA
  have hO := hid (fun k hk => oct_bd ho k hk)
  have hE := hid (fun k hk => oct_bd he k hk)
  clear h hn ho rR hA he
  go_enter Tryz.func45, Tryz.ntmps45
  go_wp2_with fail
  refine (HA.out _ H1.out).mono ?_
  rintro e w1 ⟨rfl, hB1⟩
  have hz1 := hB1.size
  simp only [World.size_alloc] at hB1 hz1
  have hBa : Below w1.heap.size w1 (w1.alloc (.cells #[.int .u8 e0, .int .u8 e1, .int .u8 e2, .int .u8 e3, .int .u8 e4, .int .u8 e5, .int .u8 e6, .int .u8 e7] 30)) := (Below.refl _ _).alloc (Nat.le_refl _) _
  have rA := hid (Row.new w1 30 [.int .u8 e0, .int .u8 e1, .int .u8 e2, .int .u8 e3, .int .u8 e4, .int .u8 e5, .int .u8 e6, .int .u8 e7])
  have rDa := hid ((rD.out.below hB1 (by omega)).below hBa (by omega))
  go_wp2_with fail
  go_loopw [12, 28] (fun s i wr => ∃ k : Nat, k ≤ n ∧ i = .int .i64 k ∧ s = .int .i64 (movN [e0, e1, e2, e3, e4, e5, e6, e7] [d0, d1, d2, d3, d4, d5, d6, d7] k) ∧ ∃ t, wr = (w1.alloc (.cells #[.int .u8 e0, .int .u8 e1, .int .u8 e2, .int .u8 e3, .int .u8 e4, .int .u8 e5, .int .u8 e6, .int .u8 e7] 30)).drewN t) (fun _ i _ => n - (intOf i).toNat)
  case atStart => exact ⟨0, Nat.zero_le _, rfl, rfl, 0, rfl⟩
  case round =>
    obtain ⟨k, hk, rfl, rfl, t, rfl⟩ := hrel
    have mb := movN_bd [e0, e1, e2, e3, e4, e5, e6, e7] [d0, d1, d2, d3, d4, d5, d6, d7] k
    by_cases hlt : k < n
    · have cE : (w1.alloc (.cells #[.int .u8 e0, .int .u8 e1, .int .u8 e2, .int .u8 e3, .int .u8 e4, .int .u8 e5, .int .u8 e6, .int .u8 e7] 30)).cell? ⟨w1.heap.size, k, none⟩ = some (.int .u8 (([e0, e1, e2, e3, e4, e5, e6, e7] : List Int)[k]?.getD 0)) := (rA.out.cell k).trans (oct_get e0 e1 e2 e3 e4 e5 e6 e7 k (by omega))
      have cD : (w1.alloc (.cells #[.int .u8 e0, .int .u8 e1, .int .u8 e2, .int .u8 e3, .int .u8 e4, .int .u8 e5, .int .u8 e6, .int .u8 e7] 30)).cell? ⟨w.heap.size, k, none⟩ = some (.int .u8 (([d0, d1, d2, d3, d4, d5, d6, d7] : List Int)[k]?.getD 0)) := (rDa.out.cell k).trans (oct_get d0 d1 d2 d3 d4 d5 d6 d7 k (by omega))
      have bE := hE.out k (by omega)
      have bD := hO.out k (by omega)
      have HQ := hid (@movN_eq [e0, e1, e2, e3, e4, e5, e6, e7] [d0, d1, d2, d3, d4, d5, d6, d7] k)
      have HN := hid (@movN_ne [e0, e1, e2, e3, e4, e5, e6, e7] [d0, d1, d2, d3, d4, d5, d6, d7] k)
      obtain ⟨m, hm⟩ : ∃ m, m = movN [e0, e1, e2, e3, e4, e5, e6, e7] [d0, d1, d2, d3, d4, d5, d6, d7] k := ⟨_, rfl⟩
      rw [← hm] at mb HQ HN ⊢
      clear hm
      obtain ⟨x, hx⟩ : ∃ x, x = ([e0, e1, e2, e3, e4, e5, e6, e7] : List Int)[k]?.getD 0 := ⟨_, rfl⟩
      obtain ⟨y, hy⟩ : ∃ y, y = ([d0, d1, d2, d3, d4, d5, d6, d7] : List Int)[k]?.getD 0 := ⟨_, rfl⟩
      rw [← hx] at cE bE HQ HN
      rw [← hy] at cD bD HQ HN
      clear hx hy
      have k8 : (k : Int) < 8 := by omega
      by_cases hxy : x = y
      · have HQ' := hid (HQ.out hxy)
        subst hxy
        have hb : (x != x) = false := by simp
        clear HQ HN
        go_wp2_with fail
        go_quiet (fail)
        go_wp2_with fail
        go_roundw
        case rel => exact ⟨k + 1, by omega, by go_num, by rw [HQ'.out], _, rfl⟩
        case measure => simp [intOf]; omega
      · have HN' := hid (HN.out hxy)
        have hb : (x != y) = true := by rw [bne_iff_ne]; exact hxy
        clear HQ HN hxy
        go_wp2_with fail
        go_quiet (fail)
        go_wp2_with fail
        go_roundw
        case rel => exact ⟨k + 1, by omega, by go_num, by rw [HN'.out], _, rfl⟩
        case measure => simp [intOf]; omega
    · obtain rfl : k = n := by omega
      obtain ⟨m, hm⟩ : ∃ m, m = movN [e0, e1, e2, e3, e4, e5, e6, e7] [d0, d1, d2, d3, d4, d5, d6, d7] k := ⟨_, rfl⟩
      rw [← hm] at mb ⊢
      have HM := hid hm
      clear hm
      have rAt : Row ((w1.alloc (.cells #[.int .u8 e0, .int .u8 e1, .int .u8 e2, .int .u8 e3, .int .u8 e4, .int .u8 e5, .int .u8 e6, .int .u8 e7] 30)).drewN t) w1.heap.size 30 [.int .u8 e0, .int .u8 e1, .int .u8 e2, .int .u8 e3, .int .u8 e4, .int .u8 e5, .int .u8 e6, .int .u8 e7] := rA.out
      have rR1 := (HR.out.below hB1 (by omega)).below hBa (by omega)
      have r1 := (show Row ((w1.alloc (.cells #[.int .u8 e0, .int .u8 e1, .int .u8 e2, .int .u8 e3, .int .u8 e4, .int .u8 e5, .int .u8 e6, .int .u8 e7] 30)).drewN t) (w.heap.size + 1) 30 [.int .u8 0, .int .u8 0, .int .u8 0, .int .u8 0, .int .u8 0, .int .u8 0, .int .u8 0, .int .u8 0] from rR1)
      have g0 := r1.cell 0; have k0 := r1.frozen 0; have g1 := r1.cell 1; have k1 := r1.frozen 1; have g2 := r1.cell 2; have k2 := r1.frozen 2; have g3 := r1.cell 3; have k3 := r1.frozen 3; have g4 := r1.cell 4; have k4 := r1.frozen 4; have g5 := r1.cell 5; have k5 := r1.frozen 5; have g6 := r1.cell 6; have k6 := r1.frozen 6; have g7 := r1.cell 7; have k7 := r1.frozen 7
      simp only [List.getElem?_cons_zero, List.getElem?_cons_succ] at g0 g1 g2 g3 g4 g5 g6 g7
      have r2 := hid (r1.set8 rfl (.int .u8 e0) (.int .u8 e1) (.int .u8 e2) (.int .u8 e3) (.int .u8 e4) (.int .u8 e5) (.int .u8 e6) (.int .u8 e7))
      have b2 := hid (below_set8 (g := w.heap.size + 1) (show Below w.heap.size w ((w1.alloc (.cells #[.int .u8 e0, .int .u8 e1, .int .u8 e2, .int .u8 e3, .int .u8 e4, .int .u8 e5, .int .u8 e6, .int .u8 e7] 30)).drewN t) from below_drewN (hB0.trans ((hB1.mono (by omega)).trans (hBa.mono (by omega)))) t) (by omega) (.int .u8 e0) (.int .u8 e1) (.int .u8 e2) (.int .u8 e3) (.int .u8 e4) (.int .u8 e5) (.int .u8 e6) (.int .u8 e7))
      clear r1
      have p0 := rAt.cell 0; have p1 := rAt.cell 1; have p2 := rAt.cell 2; have p3 := rAt.cell 3; have p4 := rAt.cell 4; have p5 := rAt.cell 5; have p6 := rAt.cell 6; have p7 := rAt.cell 7
      simp only [List.getElem?_cons_zero, List.getElem?_cons_succ] at p0 p1 p2 p3 p4 p5 p6 p7
      clear rAt
      go_wp2_with fail
      clear p0 p1 p2 p3 p4 p5 p6 p7
      clear g0 k0 g1 k1 g2 k2 g3 k3 g4 k4 g5 k5 g6 k6 g7 k7
      obtain ⟨W, hW⟩ : ∃ W, W = ((((((((((w1.alloc (.cells #[.int .u8 e0, .int .u8 e1, .int .u8 e2, .int .u8 e3, .int .u8 e4, .int .u8 e5, .int .u8 e6, .int .u8 e7] 30)).drewN t).setCell ⟨w.heap.size + 1, 0, none⟩ (.int .u8 e0)).setCell ⟨w.heap.size + 1, 1, none⟩ (.int .u8 e1)).setCell ⟨w.heap.size + 1, 2, none⟩ (.int .u8 e2)).setCell ⟨w.heap.size + 1, 3, none⟩ (.int .u8 e3)).setCell ⟨w.heap.size + 1, 4, none⟩ (.int .u8 e4)).setCell ⟨w.heap.size + 1, 5, none⟩ (.int .u8 e5)).setCell ⟨w.heap.size + 1, 6, none⟩ (.int .u8 e6)).setCell ⟨w.heap.size + 1, 7, none⟩ (.int .u8 e7)) := ⟨_, rfl⟩
      rw [← hW] at r2 b2 ⊢
      clear hW
      have r2 := r2.out
      have g0 := r2.cell 0; have g1 := r2.cell 1; have g2 := r2.cell 2; have g3 := r2.cell 3; have g4 := r2.cell 4; have g5 := r2.cell 5; have g6 := r2.cell 6; have g7 := r2.cell 7
      simp only [List.getElem?_cons_zero, List.getElem?_cons_succ] at g0 g1 g2 g3 g4 g5 g6 g7
      exact bodyPost_ret (v := .tuple #[.agg #[.int .u8 e0, .int .u8 e1, .int .u8 e2, .int .u8 e3, .int .u8 e4, .int .u8 e5, .int .u8 e6, .int .u8 e7], .int .i64 m, .int .i64 0]) (by simp [results, Tryz.results45, go_sem, g0, g1, g2, g3, g4, g5, g6, g7]) rfl ⟨by rw [HM.out], b2.out⟩

set_option maxRecDepth 100000 in
set_option maxHeartbeats 4000000 in
theorem l01Step_no (b n cap : Nat) (zs : List Int) (d0 d1 d2 d3 d4 d5 d6 d7 c : Int) (w : World) (h : Stk w b zs) (hn : n = zs.length) (ho : Oct d0 d1 d2 d3 d4 d5 d6 d7) (hv : okV zs [d0, d1, d2, d3, d4, d5, d6, d7] = false) :
    Calls Tryz.prog 46 #[.slice (some ⟨b, 0, none⟩) n cap, .agg #[.int .u8 d0, .int .u8 d1, .int .u8 d2, .int .u8 d3, .int .u8 d4, .int .u8 d5, .int .u8 d6, .int .u8 d7], .int .i64 c] w fun e w' => e = .returned (.tuple #[.agg #[.int .u8 0, .int .u8 0, .int .u8 0, .int .u8 0, .int .u8 0, .int .u8 0, .int .u8 0, .int .u8 0], .int .i64 0, .int .i64 1]) ∧ Below w.heap.size w w' := by
  have hB0 : Below w.heap.size w ((w.alloc (.cells #[.int .u8 d0, .int .u8 d1, .int .u8 d2, .int .u8 d3, .int .u8 d4, .int .u8 d5, .int .u8 d6, .int .u8 d7] 30)).alloc (.cells #[.int .u8 0, .int .u8 0, .int .u8 0, .int .u8 0, .int .u8 0, .int .u8 0, .int .u8 0, .int .u8 0] 30)) := ((Below.refl w.heap.size w).alloc (Nat.le_refl _) _).alloc (by simp) _
  have H1 := hid (h.below hB0 h.1)
  have rR := Row.new (w.alloc (.cells #[.int .u8 d0, .int .u8 d1, .int .u8 d2, .int .u8 d3, .int .u8 d4, .int .u8 d5, .int .u8 d6, .int .u8 d7] 30)) 30 [.int .u8 0, .int .u8 0, .int .u8 0, .int .u8 0, .int .u8 0, .int .u8 0, .int .u8 0, .int .u8 0]
  simp only [World.size_alloc] at rR
  have HR := hid rR
  have HV := hid (fun (w : World) (hS : Stk w b zs) => specValidDigits_any b n cap zs d0 d1 d2 d3 d4 d5 d6 d7 w hS hn ho)
  rw [hv] at HV
  clear h hn ho hv rR
  go_enter Tryz.func46, Tryz.ntmps46
  go_wp2_with fail
  refine (HV.out _ H1.out).mono ?_
  rintro e w1 ⟨rfl, hB1⟩
  have hz1 := hB1.size
  simp only [World.size_alloc] at hB1 hz1
  have r1 := (HR.out.below hB1 (by omega))
  have g0 := r1.cell 0; have k0 := r1.frozen 0; have g1 := r1.cell 1; have k1 := r1.frozen 1; have g2 := r1.cell 2; have k2 := r1.frozen 2; have g3 := r1.cell 3; have k3 := r1.frozen 3; have g4 := r1.cell 4; have k4 := r1.frozen 4; have g5 := r1.cell 5; have k5 := r1.frozen 5; have g6 := r1.cell 6; have k6 := r1.frozen 6; have g7 := r1.cell 7; have k7 := r1.frozen 7
  simp only [List.getElem?_cons_zero, List.getElem?_cons_succ] at g0 g1 g2 g3 g4 g5 g6 g7
  have r2 := hid (r1.set8 rfl (.int .u8 0) (.int .u8 0) (.int .u8 0) (.int .u8 0) (.int .u8 0) (.int .u8 0) (.int .u8 0) (.int .u8 0))
  have b2 := hid (below_set8 (g := w.heap.size + 1) (hB0.trans (hB1.mono (by omega))) (by omega) (.int .u8 0) (.int .u8 0) (.int .u8 0) (.int .u8 0) (.int .u8 0) (.int .u8 0) (.int .u8 0) (.int .u8 0))
  clear r1
  go_wp2_with fail
  clear g0 k0 g1 k1 g2 k2 g3 k3 g4 k4 g5 k5 g6 k6 g7 k7
  obtain ⟨W, hW⟩ : ∃ W, W = ((((((((w1.setCell ⟨w.heap.size + 1, 0, none⟩ (.int .u8 0)).setCell ⟨w.heap.size + 1, 1, none⟩ (.int .u8 0)).setCell ⟨w.heap.size + 1, 2, none⟩ (.int .u8 0)).setCell ⟨w.heap.size + 1, 3, none⟩ (.int .u8 0)).setCell ⟨w.heap.size + 1, 4, none⟩ (.int .u8 0)).setCell ⟨w.heap.size + 1, 5, none⟩ (.int .u8 0)).setCell ⟨w.heap.size + 1, 6, none⟩ (.int .u8 0)).setCell ⟨w.heap.size + 1, 7, none⟩ (.int .u8 0)) := ⟨_, rfl⟩
  rw [← hW] at r2 b2 ⊢
  clear hW
  have r2 := r2.out
  have g0 := r2.cell 0; have g1 := r2.cell 1; have g2 := r2.cell 2; have g3 := r2.cell 3; have g4 := r2.cell 4; have g5 := r2.cell 5; have g6 := r2.cell 6; have g7 := r2.cell 7
  simp only [List.getElem?_cons_zero, List.getElem?_cons_succ] at g0 g1 g2 g3 g4 g5 g6 g7
  exact bodyPost_ret (v := .tuple #[.agg #[.int .u8 0, .int .u8 0, .int .u8 0, .int .u8 0, .int .u8 0, .int .u8 0, .int .u8 0, .int .u8 0], .int .i64 0, .int .i64 1]) (by simp [results, Tryz.results46, go_sem, g0, g1, g2, g3, g4, g5, g6, g7]) rfl ⟨rfl, b2.out⟩
set_option maxRecDepth 100000 in
set_option maxHeartbeats 4000000 in
theorem l01Step_yes (b n cap : Nat) (zs : List Int) (d0 d1 d2 d3 d4 d5 d6 d7 c : Int) (w : World) (h : Stk w b zs) (hn : n = zs.length) (hcap : n ≤ cap) (h8 : n ≤ 8) (ho : Oct d0 d1 d2 d3 d4 d5 d6 d7) (e0 e1 e2 e3 e4 e5 e6 e7 q : Int) (he : Oct e0 e1 e2 e3 e4 e5 e6 e7) (hv : okV zs [d0, d1, d2, d3, d4, d5, d6, d7] = true) (hc : -1000000000000 ≤ c ∧ c ≤ 1000000000000) (hA : addR zs [d0, d1, d2, d3, d4, d5, d6, d7] c = ([e0, e1, e2, e3, e4, e5, e6, e7], q, 0)) :
    Calls Tryz.prog 46 #[.slice (some ⟨b, 0, none⟩) n cap, .agg #[.int .u8 d0, .int .u8 d1, .int .u8 d2, .int .u8 d3, .int .u8 d4, .int .u8 d5, .int .u8 d6, .int .u8 d7], .int .i64 c] w fun e w' => e = .returned (.tuple #[.agg #[.int .u8 e0, .int .u8 e1, .int .u8 e2, .int .u8 e3, .int .u8 e4, .int .u8 e5, .int .u8 e6, .int .u8 e7], .int .i64 (movN [e0, e1, e2, e3, e4, e5, e6, e7] [d0, d1, d2, d3, d4, d5, d6, d7] n), .int .i64 0]) ∧ Below w.heap.size w w' := by
  have hB0 : Below w.heap.size w ((w.alloc (.cells #[.int .u8 d0, .int .u8 d1, .int .u8 d2, .int .u8 d3, .int .u8 d4, .int .u8 d5, .int .u8 d6, .int .u8 d7] 30)).alloc (.cells #[.int .u8 0, .int .u8 0, .int .u8 0, .int .u8 0, .int .u8 0, .int .u8 0, .int .u8 0, .int .u8 0] 30)) := ((Below.refl w.heap.size w).alloc (Nat.le_refl _) _).alloc (by simp) _
  have H1 := hid (h.below hB0 h.1)
  have hbl := h.1
  have rD := hid ((Row.new w 30 [.int .u8 d0, .int .u8 d1, .int .u8 d2, .int .u8 d3, .int .u8 d4, .int .u8 d5, .int .u8 d6, .int .u8 d7]).alloc (.cells #[.int .u8 0, .int .u8 0, .int .u8 0, .int .u8 0, .int .u8 0, .int .u8 0, .int .u8 0, .int .u8 0] 30))
  have rR := Row.new (w.alloc (.cells #[.int .u8 d0, .int .u8 d1, .int .u8 d2, .int .u8 d3, .int .u8 d4, .int .u8 d5, .int .u8 d6, .int .u8 d7] 30)) 30 [.int .u8 0, .int .u8 0, .int .u8 0, .int .u8 0, .int .u8 0, .int .u8 0, .int .u8 0, .int .u8 0]
  simp only [World.size_alloc] at rR
  have HR := hid rR
  have HV := hid (fun (w : World) (hS : Stk w b zs) => specValidDigits_any b n cap zs d0 d1 d2 d3 d4 d5 d6 d7 w hS hn ho)
  rw [hv] at HV
  have HA := hid (fun (w : World) (hS : Stk w b zs) => l01Add_any b n cap zs d0 d1 d2 d3 d4 d5 d6 d7 c w hS hn ho hv hc)
  rw [addR_yes c hv hc] at hA
  obtain ⟨hA1, hA2⟩ := Prod.mk.inj hA
  obtain ⟨hA2, _⟩ := Prod.mk.inj hA2
  rw [hA1, hA2] at HA
  have HA : Hid (∀ (w : World), Stk w b zs → Calls Tryz.prog 63 #[.slice (some ⟨b, 0, none⟩) n cap, .agg #[.int .u8 d0, .int .u8 d1, .int .u8 d2, .int .u8 d3, .int .u8 d4, .int .u8 d5, .int .u8 d6, .int .u8 d7], .int .i64 c] w fun e w' => e = .returned (.tuple #[.agg #[.int .u8 e0, .int .u8 e1, .int .u8 e2, .int .u8 e3, .int .u8 e4, .int .u8 e5, .int .u8 e6, .int .u8 e7], .int .i64 q]) ∧ Below w.heap.size w w') := HA
  have hO := hid (fun k hk => oct_bd ho k hk)
  have hE := hid (fun k hk => oct_bd he k hk)
  clear h hn ho rR hA he hv hA1 hA2
  go_enter Tryz.func46, Tryz.ntmps46
  go_wp2_with fail
  refine (HV.out _ H1.out).mono ?_
  rintro e w0 ⟨rfl, hB00⟩
  have hz0 := hB00.size
  simp only [World.size_alloc] at hB00 hz0
  have H2 := hid (H1.out.below hB00 (by omega))
  have rd0 := rD.out.below hB00 (by omega)
  have f0 := rd0.cell 0; have f1 := rd0.cell 1; have f2 := rd0.cell 2; have f3 := rd0.cell 3; have f4 := rd0.cell 4; have f5 := rd0.cell 5; have f6 := rd0.cell 6; have f7 := rd0.cell 7
  simp only [List.getElem?_cons_zero, List.getElem?_cons_succ] at f0 f1 f2 f3 f4 f5 f6 f7
  clear rd0
  go_wp2_with fail
  refine (HA.out _ H2.out).mono ?_
  rintro e w1 ⟨rfl, hB11⟩
  have hz1 := hB11.size
  clear f0 f1 f2 f3 f4 f5 f6 f7
  have hB1 : Below (w.heap.size + 1 + 1) ((w.alloc (.cells #[.int .u8 d0, .int .u8 d1, .int .u8 d2, .int .u8 d3, .int .u8 d4, .int .u8 d5, .int .u8 d6, .int .u8 d7] 30)).alloc (.cells #[.int .u8 0, .int .u8 0, .int .u8 0, .int .u8 0, .int .u8 0, .int .u8 0, .int .u8 0, .int .u8 0] 30)) w1 := hB00.trans (hB11.mono (by omega))
  have hBa : Below w1.heap.size w1 (w1.alloc (.cells #[.int .u8 e0, .int .u8 e1, .int .u8 e2, .int .u8 e3, .int .u8 e4, .int .u8 e5, .int .u8 e6, .int .u8 e7] 30)) := (Below.refl _ _).alloc (Nat.le_refl _) _
  have rA := hid (Row.new w1 30 [.int .u8 e0, .int .u8 e1, .int .u8 e2, .int .u8 e3, .int .u8 e4, .int .u8 e5, .int .u8 e6, .int .u8 e7])
  have rDa := hid ((rD.out.below hB1 (by omega)).below hBa (by omega))
  go_wp2_with fail
  go_loopw [11, 12] (fun s i wr => ∃ k : Nat, k ≤ n ∧ i = .int .i64 k ∧ s = .int .i64 (movN [e0, e1, e2, e3, e4, e5, e6, e7] [d0, d1, d2, d3, d4, d5, d6, d7] k) ∧ ∃ t, wr = (w1.alloc (.cells #[.int .u8 e0, .int .u8 e1, .int .u8 e2, .int .u8 e3, .int .u8 e4, .int .u8 e5, .int .u8 e6, .int .u8 e7] 30)).drewN t) (fun _ i _ => n - (intOf i).toNat)
  case atStart => exact ⟨0, Nat.zero_le _, rfl, rfl, 0, rfl⟩
  case round =>
    obtain ⟨k, hk, rfl, rfl, t, rfl⟩ := hrel
    have mb := movN_bd [e0, e1, e2, e3, e4, e5, e6, e7] [d0, d1, d2, d3, d4, d5, d6, d7] k
    by_cases hlt : k < n
    · have cE : (w1.alloc (.cells #[.int .u8 e0, .int .u8 e1, .int .u8 e2, .int .u8 e3, .int .u8 e4, .int .u8 e5, .int .u8 e6, .int .u8 e7] 30)).cell? ⟨w1.heap.size, k, none⟩ = some (.int .u8 (([e0, e1, e2, e3, e4, e5, e6, e7] : List Int)[k]?.getD 0)) := (rA.out.cell k).trans (oct_get e0 e1 e2 e3 e4 e5 e6 e7 k (by omega))
      have cD : (w1.alloc (.cells #[.int .u8 e0, .int .u8 e1, .int .u8 e2, .int .u8 e3, .int .u8 e4, .int .u8 e5, .int .u8 e6, .int .u8 e7] 30)).cell? ⟨w.heap.size, k, none⟩ = some (.int .u8 (([d0, d1, d2, d3, d4, d5, d6, d7] : List Int)[k]?.getD 0)) := (rDa.out.cell k).trans (oct_get d0 d1 d2 d3 d4 d5 d6 d7 k (by omega))
      have bE := hE.out k (by omega)
      have bD := hO.out k (by omega)
      have HQ := hid (@movN_eq [e0, e1, e2, e3, e4, e5, e6, e7] [d0, d1, d2, d3, d4, d5, d6, d7] k)
      have HN := hid (@movN_ne [e0, e1, e2, e3, e4, e5, e6, e7] [d0, d1, d2, d3, d4, d5, d6, d7] k)
      obtain ⟨m, hm⟩ : ∃ m, m = movN [e0, e1, e2, e3, e4, e5, e6, e7] [d0, d1, d2, d3, d4, d5, d6, d7] k := ⟨_, rfl⟩
      rw [← hm] at mb HQ HN ⊢
      clear hm
      obtain ⟨x, hx⟩ : ∃ x, x = ([e0, e1, e2, e3, e4, e5, e6, e7] : List Int)[k]?.getD 0 := ⟨_, rfl⟩
      obtain ⟨y, hy⟩ : ∃ y, y = ([d0, d1, d2, d3, d4, d5, d6, d7] : List Int)[k]?.getD 0 := ⟨_, rfl⟩
      rw [← hx] at cE bE HQ HN
      rw [← hy] at cD bD HQ HN
      clear hx hy
      have k8 : (k : Int) < 8 := by omega
      by_cases hxy : x = y
      · have HQ' := hid (HQ.out hxy)
        subst hxy
        have hb : (x != x) = false := by simp
        clear HQ HN
        go_wp2_with fail
        go_quiet (fail)
        go_wp2_with fail
        go_roundw
        case rel => exact ⟨k + 1, by omega, by go_num, by rw [HQ'.out], _, rfl⟩
        case measure => simp [intOf]; omega
      · have HN' := hid (HN.out hxy)
        have hb : (x != y) = true := by rw [bne_iff_ne]; exact hxy
        clear HQ HN hxy
        go_wp2_with fail
        go_quiet (fail)
        go_wp2_with fail
        go_roundw
        case rel => exact ⟨k + 1, by omega, by go_num, by rw [HN'.out], _, rfl⟩
        case measure => simp [intOf]; omega
    · obtain rfl : k = n := by omega
      obtain ⟨m, hm⟩ : ∃ m, m = movN [e0, e1, e2, e3, e4, e5, e6, e7] [d0, d1, d2, d3, d4, d5, d6, d7] k := ⟨_, rfl⟩
      rw [← hm] at mb ⊢
      have HM := hid hm
      clear hm
      have rAt : Row ((w1.alloc (.cells #[.int .u8 e0, .int .u8 e1, .int .u8 e2, .int .u8 e3, .int .u8 e4, .int .u8 e5, .int .u8 e6, .int .u8 e7] 30)).drewN t) w1.heap.size 30 [.int .u8 e0, .int .u8 e1, .int .u8 e2, .int .u8 e3, .int .u8 e4, .int .u8 e5, .int .u8 e6, .int .u8 e7] := rA.out
      have rR1 := (HR.out.below hB1 (by omega)).below hBa (by omega)
      have r1 := (show Row ((w1.alloc (.cells #[.int .u8 e0, .int .u8 e1, .int .u8 e2, .int .u8 e3, .int .u8 e4, .int .u8 e5, .int .u8 e6, .int .u8 e7] 30)).drewN t) (w.heap.size + 1) 30 [.int .u8 0, .int .u8 0, .int .u8 0, .int .u8 0, .int .u8 0, .int .u8 0, .int .u8 0, .int .u8 0] from rR1)
      have g0 := r1.cell 0; have k0 := r1.frozen 0; have g1 := r1.cell 1; have k1 := r1.frozen 1; have g2 := r1.cell 2; have k2 := r1.frozen 2; have g3 := r1.cell 3; have k3 := r1.frozen 3; have g4 := r1.cell 4; have k4 := r1.frozen 4; have g5 := r1.cell 5; have k5 := r1.frozen 5; have g6 := r1.cell 6; have k6 := r1.frozen 6; have g7 := r1.cell 7; have k7 := r1.frozen 7
      simp only [List.getElem?_cons_zero, List.getElem?_cons_succ] at g0 g1 g2 g3 g4 g5 g6 g7
      have r2 := hid (r1.set8 rfl (.int .u8 e0) (.int .u8 e1) (.int .u8 e2) (.int .u8 e3) (.int .u8 e4) (.int .u8 e5) (.int .u8 e6) (.int .u8 e7))
      have b2 := hid (below_set8 (g := w.heap.size + 1) (show Below w.heap.size w ((w1.alloc (.cells #[.int .u8 e0, .int .u8 e1, .int .u8 e2, .int .u8 e3, .int .u8 e4, .int .u8 e5, .int .u8 e6, .int .u8 e7] 30)).drewN t) from below_drewN (hB0.trans ((hB1.mono (by omega)).trans (hBa.mono (by omega)))) t) (by omega) (.int .u8 e0) (.int .u8 e1) (.int .u8 e2) (.int .u8 e3) (.int .u8 e4) (.int .u8 e5) (.int .u8 e6) (.int .u8 e7))
      clear r1
      have p0 := rAt.cell 0; have p1 := rAt.cell 1; have p2 := rAt.cell 2; have p3 := rAt.cell 3; have p4 := rAt.cell 4; have p5 := rAt.cell 5; have p6 := rAt.cell 6; have p7 := rAt.cell 7
      simp only [List.getElem?_cons_zero, List.getElem?_cons_succ] at p0 p1 p2 p3 p4 p5 p6 p7
      clear rAt
      go_wp2_with fail
      clear p0 p1 p2 p3 p4 p5 p6 p7
      clear g0 k0 g1 k1 g2 k2 g3 k3 g4 k4 g5 k5 g6 k6 g7 k7
      obtain ⟨W, hW⟩ : ∃ W, W = ((((((((((w1.alloc (.cells #[.int .u8 e0, .int .u8 e1, .int .u8 e2, .int .u8 e3, .int .u8 e4, .int .u8 e5, .int .u8 e6, .int .u8 e7] 30)).drewN t).setCell ⟨w.heap.size + 1, 0, none⟩ (.int .u8 e0)).setCell ⟨w.heap.size + 1, 1, none⟩ (.int .u8 e1)).setCell ⟨w.heap.size + 1, 2, none⟩ (.int .u8 e2)).setCell ⟨w.heap.size + 1, 3, none⟩ (.int .u8 e3)).setCell ⟨w.heap.size + 1, 4, none⟩ (.int .u8 e4)).setCell ⟨w.heap.size + 1, 5, none⟩ (.int .u8 e5)).setCell ⟨w.heap.size + 1, 6, none⟩ (.int .u8 e6)).setCell ⟨w.heap.size + 1, 7, none⟩ (.int .u8 e7)) := ⟨_, rfl⟩
      rw [← hW] at r2 b2 ⊢
      clear hW
      have r2 := r2.out
      have g0 := r2.cell 0; have g1 := r2.cell 1; have g2 := r2.cell 2; have g3 := r2.cell 3; have g4 := r2.cell 4; have g5 := r2.cell 5; have g6 := r2.cell 6; have g7 := r2.cell 7
      simp only [List.getElem?_cons_zero, List.getElem?_cons_succ] at g0 g1 g2 g3 g4 g5 g6 g7
      exact bodyPost_ret (v := .tuple #[.agg #[.int .u8 e0, .int .u8 e1, .int .u8 e2, .int .u8 e3, .int .u8 e4, .int .u8 e5, .int .u8 e6, .int .u8 e7], .int .i64 m, .int .i64 0]) (by simp [results, Tryz.results46, go_sem, g0, g1, g2, g3, g4, g5, g6, g7]) rfl ⟨by rw [HM.out], b2.out⟩

theorem dgL_oct (zs : List Int) (v : Int) (hz : inB zs zs.length) {e0 e1 e2 e3 e4 e5 e6 e7 : Int} (h : dgL zs v = [e0, e1, e2, e3, e4, e5, e6, e7]) : Oct e0 e1 e2 e3 e4 e5 e6 e7 := by
  have key : ∀ k, k < 8 → 0 ≤ ([e0, e1, e2, e3, e4, e5, e6, e7] : List Int)[k]?.getD 0 ∧ ([e0, e1, e2, e3, e4, e5, e6, e7] : List Int)[k]?.getD 0 ≤ 255 := fun k hk => by
    have := dgL_bd zs v hz k hk
    rw [h] at this
    omega
  exact ⟨key 0 (by omega), key 1 (by omega), key 2 (by omega), key 3 (by omega), key 4 (by omega), key 5 (by omega), key 6 (by omega), key 7 (by omega)⟩
theorem implStep_any (b n cap : Nat) (zs : List Int) (d0 d1 d2 d3 d4 d5 d6 d7 c : Int) (w : World) (h : Stk w b zs) (hn : n = zs.length) (hcap : n ≤ cap) (ho : Oct d0 d1 d2 d3 d4 d5 d6 d7) (hc : -1000000000000 ≤ c ∧ c ≤ 1000000000000) :
    Calls Tryz.prog 45 #[.slice (some ⟨b, 0, none⟩) n cap, .agg #[.int .u8 d0, .int .u8 d1, .int .u8 d2, .int .u8 d3, .int .u8 d4, .int .u8 d5, .int .u8 d6, .int .u8 d7], .int .i64 c] w fun e w' => e = .returned (.tuple #[.agg #[.int .u8 (dg (stepR zs [d0, d1, d2, d3, d4, d5, d6, d7] c).1 0), .int .u8 (dg (stepR zs [d0, d1, d2, d3, d4, d5, d6, d7] c).1 1), .int .u8 (dg (stepR zs [d0, d1, d2, d3, d4, d5, d6, d7] c).1 2), .int .u8 (dg (stepR zs [d0, d1, d2, d3, d4, d5, d6, d7] c).1 3), .int .u8 (dg (stepR zs [d0, d1, d2, d3, d4, d5, d6, d7] c).1 4), .int .u8 (dg (stepR zs [d0, d1, d2, d3, d4, d5, d6, d7] c).1 5), .int .u8 (dg (stepR zs [d0, d1, d2, d3, d4, d5, d6, d7] c).1 6), .int .u8 (dg (stepR zs [d0, d1, d2, d3, d4, d5, d6, d7] c).1 7)], .int .i64 (stepR zs [d0, d1, d2, d3, d4, d5, d6, d7] c).2.1, .int .i64 (stepR zs [d0, d1, d2, d3, d4, d5, d6, d7] c).2.2]) ∧ Below w.heap.size w w' := by
  cases hv : okV zs [d0, d1, d2, d3, d4, d5, d6, d7] with
  | false =>
    rw [stepR_no c hv]
    exact implStep_no b n cap zs d0 d1 d2 d3 d4 d5 d6 d7 c w h hn hcap ho hv
  | true =>
    obtain ⟨e0, e1, e2, e3, e4, e5, e6, e7, he⟩ := list8 (dgL_len zs ((valL zs [d0, d1, d2, d3, d4, d5, d6, d7] zs.length + c) % szL zs))
    have hA := addR_yes c hv hc
    obtain ⟨_, h8, hin, _, _⟩ := okL_out (okV_out hv).1
    have hOe := dgL_oct zs _ hin he
    rw [he] at hA
    rw [stepR_yes hA, ← hn]
    exact implStep_yes b n cap zs d0 d1 d2 d3 d4 d5 d6 d7 c w h hn hcap (by omega) ho e0 e1 e2 e3 e4 e5 e6 e7 _ hOe hA
theorem l01Step_any (b n cap : Nat) (zs : List Int) (d0 d1 d2 d3 d4 d5 d6 d7 c : Int) (w : World) (h : Stk w b zs) (hn : n = zs.length) (hcap : n ≤ cap) (ho : Oct d0 d1 d2 d3 d4 d5 d6 d7) (hc : -1000000000000 ≤ c ∧ c ≤ 1000000000000) :
    Calls Tryz.prog 46 #[.slice (some ⟨b, 0, none⟩) n cap, .agg #[.int .u8 d0, .int .u8 d1, .int .u8 d2, .int .u8 d3, .int .u8 d4, .int .u8 d5, .int .u8 d6, .int .u8 d7], .int .i64 c] w fun e w' => e = .returned (.tuple #[.agg #[.int .u8 (dg (stepR zs [d0, d1, d2, d3, d4, d5, d6, d7] c).1 0), .int .u8 (dg (stepR zs [d0, d1, d2, d3, d4, d5, d6, d7] c).1 1), .int .u8 (dg (stepR zs [d0, d1, d2, d3, d4, d5, d6, d7] c).1 2), .int .u8 (dg (stepR zs [d0, d1, d2, d3, d4, d5, d6, d7] c).1 3), .int .u8 (dg (stepR zs [d0, d1, d2, d3, d4, d5, d6, d7] c).1 4), .int .u8 (dg (stepR zs [d0, d1, d2, d3, d4, d5, d6, d7] c).1 5), .int .u8 (dg (stepR zs [d0, d1, d2, d3, d4, d5, d6, d7] c).1 6), .int .u8 (dg (stepR zs [d0, d1, d2, d3, d4, d5, d6, d7] c).1 7)], .int .i64 (stepR zs [d0, d1, d2, d3, d4, d5, d6, d7] c).2.1, .int .i64 (stepR zs [d0, d1, d2, d3, d4, d5, d6, d7] c).2.2]) ∧ Below w.heap.size w w' := by
  cases hv : okV zs [d0, d1, d2, d3, d4, d5, d6, d7] with
  | false =>
    rw [stepR_no c hv]
    exact l01Step_no b n cap zs d0 d1 d2 d3 d4 d5 d6 d7 c w h hn ho hv
  | true =>
    obtain ⟨e0, e1, e2, e3, e4, e5, e6, e7, he⟩ := list8 (dgL_len zs ((valL zs [d0, d1, d2, d3, d4, d5, d6, d7] zs.length + c) % szL zs))
    have hA := addR_yes c hv hc
    obtain ⟨_, h8, hin, _, _⟩ := okL_out (okV_out hv).1
    have hOe := dgL_oct zs _ hin he
    rw [he] at hA
    rw [stepR_yes hA, ← hn]
    exact l01Step_yes b n cap zs d0 d1 d2 d3 d4 d5 d6 d7 c w h hn hcap (by omega) ho e0 e1 e2 e3 e4 e5 e6 e7 _ hOe hv hc hA

set_option maxRecDepth 100000 in
set_option maxHeartbeats 4000000 in
theorem implStepUp_any (b n cap : Nat) (zs : List Int) (d0 d1 d2 d3 d4 d5 d6 d7 : Int) (w : World) (h : Stk w b zs) (hn : n = zs.length) (hcap : n ≤ cap) (ho : Oct d0 d1 d2 d3 d4 d5 d6 d7) :
    Calls Tryz.prog 19 #[.slice (some ⟨b, 0, none⟩) n cap, .agg #[.int .u8 d0, .int .u8 d1, .int .u8 d2, .int .u8 d3, .int .u8 d4, .int .u8 d5, .int .u8 d6, .int .u8 d7]] w fun e w' => e = .returned (.tuple #[.agg #[.int .u8 (dg (stepR zs [d0, d1, d2, d3, d4, d5, d6, d7] (1)).1 0), .int .u8 (dg (stepR zs [d0, d1, d2, d3, d4, d5, d6, d7] (1)).1 1), .int .u8 (dg (stepR zs [d0, d1, d2, d3, d4, d5, d6, d7] (1)).1 2), .int .u8 (dg (stepR zs [d0, d1, d2, d3, d4, d5, d6, d7] (1)).1 3), .int .u8 (dg (stepR zs [d0, d1, d2, d3, d4, d5, d6, d7] (1)).1 4), .int .u8 (dg (stepR zs [d0, d1, d2, d3, d4, d5, d6, d7] (1)).1 5), .int .u8 (dg (stepR zs [d0, d1, d2, d3, d4, d5, d6, d7] (1)).1 6), .int .u8 (dg (stepR zs [d0, d1, d2, d3, d4, d5, d6, d7] (1)).1 7)], .int .i64 (stepR zs [d0, d1, d2, d3, d4, d5, d6, d7] (1)).2.1, .int .i64 (stepR zs [d0, d1, d2, d3, d4, d5, d6, d7] (1)).2.2]) ∧ Below w.heap.size w w' := by
  have hB0 : Below w.heap.size w ((w.alloc (.cells #[.int .u8 d0, .int .u8 d1, .int .u8 d2, .int .u8 d3, .int .u8 d4, .int .u8 d5, .int .u8 d6, .int .u8 d7] 30)).alloc (.cells #[.int .u8 0, .int .u8 0, .int .u8 0, .int .u8 0, .int .u8 0, .int .u8 0, .int .u8 0, .int .u8 0] 30)) := ((Below.refl w.heap.size w).alloc (Nat.le_refl _) _).alloc (by simp) _
  have H1 := hid (h.below hB0 h.1)
  have rR := Row.new (w.alloc (.cells #[.int .u8 d0, .int .u8 d1, .int .u8 d2, .int .u8 d3, .int .u8 d4, .int .u8 d5, .int .u8 d6, .int .u8 d7] 30)) 30 [.int .u8 0, .int .u8 0, .int .u8 0, .int .u8 0, .int .u8 0, .int .u8 0, .int .u8 0, .int .u8 0]
  simp only [World.size_alloc] at rR
  have HR := hid rR
  have HA := hid (fun (w : World) (hS : Stk w b zs) => implStep_any b n cap zs d0 d1 d2 d3 d4 d5 d6 d7 (1) w hS hn hcap ho (by omega))
  obtain ⟨R, hR⟩ : ∃ R, R = (stepR zs [d0, d1, d2, d3, d4, d5, d6, d7] (1)) := ⟨_, rfl⟩
  rw [← hR] at HA
  rw [← hR]
  obtain ⟨e0, he0⟩ : ∃ x, x = dg R.1 0 := ⟨_, rfl⟩
  obtain ⟨e1, he1⟩ : ∃ x, x = dg R.1 1 := ⟨_, rfl⟩
  obtain ⟨e2, he2⟩ : ∃ x, x = dg R.1 2 := ⟨_, rfl⟩
  obtain ⟨e3, he3⟩ : ∃ x, x = dg R.1 3 := ⟨_, rfl⟩
  obtain ⟨e4, he4⟩ : ∃ x, x = dg R.1 4 := ⟨_, rfl⟩
  obtain ⟨e5, he5⟩ : ∃ x, x = dg R.1 5 := ⟨_, rfl⟩
  obtain ⟨e6, he6⟩ : ∃ x, x = dg R.1 6 := ⟨_, rfl⟩
  obtain ⟨e7, he7⟩ : ∃ x, x = dg R.1 7 := ⟨_, rfl⟩
  obtain ⟨x, hx⟩ : ∃ x, x = R.2.1 := ⟨_, rfl⟩
  obtain ⟨y, hy⟩ : ∃ x, x = R.2.2 := ⟨_, rfl⟩
  rw [← he0, ← he1, ← he2, ← he3, ← he4, ← he5, ← he6, ← he7, ← hx, ← hy] at HA
  rw [← he0, ← he1, ← he2, ← he3, ← he4, ← he5, ← he6, ← he7, ← hx, ← hy]
  clear h hn ho rR hR hx hy he0 he1 he2 he3 he4 he5 he6 he7
  go_enter Tryz.func19, Tryz.ntmps19
  go_wp2_with fail
  refine (HA.out _ H1.out).mono ?_
  rintro e w1 ⟨rfl, hB1⟩
  have hz1 := hB1.size
  simp only [World.size_alloc] at hB1 hz1
  have r1 := (HR.out.below hB1 (by omega))
  have g0 := r1.cell 0; have k0 := r1.frozen 0; have g1 := r1.cell 1; have k1 := r1.frozen 1; have g2 := r1.cell 2; have k2 := r1.frozen 2; have g3 := r1.cell 3; have k3 := r1.frozen 3; have g4 := r1.cell 4; have k4 := r1.frozen 4; have g5 := r1.cell 5; have k5 := r1.frozen 5; have g6 := r1.cell 6; have k6 := r1.frozen 6; have g7 := r1.cell 7; have k7 := r1.frozen 7
  simp only [List.getElem?_cons_zero, List.getElem?_cons_succ] at g0 g1 g2 g3 g4 g5 g6 g7
  have r2 := hid (r1.set8 rfl (.int .u8 e0) (.int .u8 e1) (.int .u8 e2) (.int .u8 e3) (.int .u8 e4) (.int .u8 e5) (.int .u8 e6) (.int .u8 e7))
  have b2 := hid (below_set8 (g := w.heap.size + 1) (hB0.trans (hB1.mono (by omega))) (by omega) (.int .u8 e0) (.int .u8 e1) (.int .u8 e2) (.int .u8 e3) (.int .u8 e4) (.int .u8 e5) (.int .u8 e6) (.int .u8 e7))
  clear r1
  go_wp2_with fail
  clear g0 k0 g1 k1 g2 k2 g3 k3 g4 k4 g5 k5 g6 k6 g7 k7
  obtain ⟨W, hW⟩ : ∃ W, W = ((((((((w1.setCell ⟨w.heap.size + 1, 0, none⟩ (.int .u8 e0)).setCell ⟨w.heap.size + 1, 1, none⟩ (.int .u8 e1)).setCell ⟨w.heap.size + 1, 2, none⟩ (.int .u8 e2)).setCell ⟨w.heap.size + 1, 3, none⟩ (.int .u8 e3)).setCell ⟨w.heap.size + 1, 4, none⟩ (.int .u8 e4)).setCell ⟨w.heap.size + 1, 5, none⟩ (.int .u8 e5)).setCell ⟨w.heap.size + 1, 6, none⟩ (.int .u8 e6)).setCell ⟨w.heap.size + 1, 7, none⟩ (.int .u8 e7)) := ⟨_, rfl⟩
  rw [← hW] at r2 b2 ⊢
  clear hW
  have r2 := r2.out
  have g0 := r2.cell 0; have g1 := r2.cell 1; have g2 := r2.cell 2; have g3 := r2.cell 3; have g4 := r2.cell 4; have g5 := r2.cell 5; have g6 := r2.cell 6; have g7 := r2.cell 7
  simp only [List.getElem?_cons_zero, List.getElem?_cons_succ] at g0 g1 g2 g3 g4 g5 g6 g7
  exact bodyPost_ret (v := .tuple #[.agg #[.int .u8 e0, .int .u8 e1, .int .u8 e2, .int .u8 e3, .int .u8 e4, .int .u8 e5, .int .u8 e6, .int .u8 e7], .int .i64 x, .int .i64 y]) (by simp [results, Tryz.results19, go_sem, g0, g1, g2, g3, g4, g5, g6, g7]) rfl ⟨rfl, b2.out⟩

set_option maxRecDepth 100000 in
set_option maxHeartbeats 4000000 in
theorem implStepDown_any (b n cap : Nat) (zs : List Int) (d0 d1 d2 d3 d4 d5 d6 d7 : Int) (w : World) (h : Stk w b zs) (hn : n = zs.length) (hcap : n ≤ cap) (ho : Oct d0 d1 d2 d3 d4 d5 d6 d7) :
    Calls Tryz.prog 21 #[.slice (some ⟨b, 0, none⟩) n cap, .agg #[.int .u8 d0, .int .u8 d1, .int .u8 d2, .int .u8 d3, .int .u8 d4, .int .u8 d5, .int .u8 d6, .int .u8 d7]] w fun e w' => e = .returned (.tuple #[.agg #[.int .u8 (dg (stepR zs [d0, d1, d2, d3, d4, d5, d6, d7] (-1)).1 0), .int .u8 (dg (stepR zs [d0, d1, d2, d3, d4, d5, d6, d7] (-1)).1 1), .int .u8 (dg (stepR zs [d0, d1, d2, d3, d4, d5, d6, d7] (-1)).1 2), .int .u8 (dg (stepR zs [d0, d1, d2, d3, d4, d5, d6, d7] (-1)).1 3), .int .u8 (dg (stepR zs [d0, d1, d2, d3, d4, d5, d6, d7] (-1)).1 4), .int .u8 (dg (stepR zs [d0, d1, d2, d3, d4, d5, d6, d7] (-1)).1 5), .int .u8 (dg (stepR zs [d0, d1, d2, d3, d4, d5, d6, d7] (-1)).1 6), .int .u8 (dg (stepR zs [d0, d1, d2, d3, d4, d5, d6, d7] (-1)).1 7)], .int .i64 (stepR zs [d0, d1, d2, d3, d4, d5, d6, d7] (-1)).2.1, .int .i64 (stepR zs [d0, d1, d2, d3, d4, d5, d6, d7] (-1)).2.2]) ∧ Below w.heap.size w w' := by
  have hB0 : Below w.heap.size w ((w.alloc (.cells #[.int .u8 d0, .int .u8 d1, .int .u8 d2, .int .u8 d3, .int .u8 d4, .int .u8 d5, .int .u8 d6, .int .u8 d7] 30)).alloc (.cells #[.int .u8 0, .int .u8 0, .int .u8 0, .int .u8 0, .int .u8 0, .int .u8 0, .int .u8 0, .int .u8 0] 30)) := ((Below.refl w.heap.size w).alloc (Nat.le_refl _) _).alloc (by simp) _
  have H1 := hid (h.below hB0 h.1)
  have rR := Row.new (w.alloc (.cells #[.int .u8 d0, .int .u8 d1, .int .u8 d2, .int .u8 d3, .int .u8 d4, .int .u8 d5, .int .u8 d6, .int .u8 d7] 30)) 30 [.int .u8 0, .int .u8 0, .int .u8 0, .int .u8 0, .int .u8 0, .int .u8 0, .int .u8 0, .int .u8 0]
  simp only [World.size_alloc] at rR
  have HR := hid rR
  have HA := hid (fun (w : World) (hS : Stk w b zs) => implStep_any b n cap zs d0 d1 d2 d3 d4 d5 d6 d7 (-1) w hS hn hcap ho (by omega))
  obtain ⟨R, hR⟩ : ∃ R, R = (stepR zs [d0, d1, d2, d3, d4, d5, d6, d7] (-1)) := ⟨_, rfl⟩
  rw [← hR] at HA
  rw [← hR]
  obtain ⟨e0, he0⟩ : ∃ x, x = dg R.1 0 := ⟨_, rfl⟩
  obtain ⟨e1, he1⟩ : ∃ x, x = dg R.1 1 := ⟨_, rfl⟩
  obtain ⟨e2, he2⟩ : ∃ x, x = dg R.1 2 := ⟨_, rfl⟩
  obtain ⟨e3, he3⟩ : ∃ x, x = dg R.1 3 := ⟨_, rfl⟩
  obtain ⟨e4, he4⟩ : ∃ x, x = dg R.1 4 := ⟨_, rfl⟩
  obtain ⟨e5, he5⟩ : ∃ x, x = dg R.1 5 := ⟨_, rfl⟩
  obtain ⟨e6, he6⟩ : ∃ x, x = dg R.1 6 := ⟨_, rfl⟩
  obtain ⟨e7, he7⟩ : ∃ x, x = dg R.1 7 := ⟨_, rfl⟩
  obtain ⟨x, hx⟩ : ∃ x, x = R.2.1 := ⟨_, rfl⟩
  obtain ⟨y, hy⟩ : ∃ x, x = R.2.2 := ⟨_, rfl⟩
  rw [← he0, ← he1, ← he2, ← he3, ← he4, ← he5, ← he6, ← he7, ← hx, ← hy] at HA
  rw [← he0, ← he1, ← he2, ← he3, ← he4, ← he5, ← he6, ← he7, ← hx, ← hy]
  clear h hn ho rR hR hx hy he0 he1 he2 he3 he4 he5 he6 he7
  go_enter Tryz.func21, Tryz.ntmps21
  go_wp2_with fail
  refine (HA.out _ H1.out).mono ?_
  rintro e w1 ⟨rfl, hB1⟩
  have hz1 := hB1.size
  simp only [World.size_alloc] at hB1 hz1
  have r1 := (HR.out.below hB1 (by omega))
  have g0 := r1.cell 0; have k0 := r1.frozen 0; have g1 := r1.cell 1; have k1 := r1.frozen 1; have g2 := r1.cell 2; have k2 := r1.frozen 2; have g3 := r1.cell 3; have k3 := r1.frozen 3; have g4 := r1.cell 4; have k4 := r1.frozen 4; have g5 := r1.cell 5; have k5 := r1.frozen 5; have g6 := r1.cell 6; have k6 := r1.frozen 6; have g7 := r1.cell 7; have k7 := r1.frozen 7
  simp only [List.getElem?_cons_zero, List.getElem?_cons_succ] at g0 g1 g2 g3 g4 g5 g6 g7
  have r2 := hid (r1.set8 rfl (.int .u8 e0) (.int .u8 e1) (.int .u8 e2) (.int .u8 e3) (.int .u8 e4) (.int .u8 e5) (.int .u8 e6) (.int .u8 e7))
  have b2 := hid (below_set8 (g := w.heap.size + 1) (hB0.trans (hB1.mono (by omega))) (by omega) (.int .u8 e0) (.int .u8 e1) (.int .u8 e2) (.int .u8 e3) (.int .u8 e4) (.int .u8 e5) (.int .u8 e6) (.int .u8 e7))
  clear r1
  go_wp2_with fail
  clear g0 k0 g1 k1 g2 k2 g3 k3 g4 k4 g5 k5 g6 k6 g7 k7
  obtain ⟨W, hW⟩ : ∃ W, W = ((((((((w1.setCell ⟨w.heap.size + 1, 0, none⟩ (.int .u8 e0)).setCell ⟨w.heap.size + 1, 1, none⟩ (.int .u8 e1)).setCell ⟨w.heap.size + 1, 2, none⟩ (.int .u8 e2)).setCell ⟨w.heap.size + 1, 3, none⟩ (.int .u8 e3)).setCell ⟨w.heap.size + 1, 4, none⟩ (.int .u8 e4)).setCell ⟨w.heap.size + 1, 5, none⟩ (.int .u8 e5)).setCell ⟨w.heap.size + 1, 6, none⟩ (.int .u8 e6)).setCell ⟨w.heap.size + 1, 7, none⟩ (.int .u8 e7)) := ⟨_, rfl⟩
  rw [← hW] at r2 b2 ⊢
  clear hW
  have r2 := r2.out
  have g0 := r2.cell 0; have g1 := r2.cell 1; have g2 := r2.cell 2; have g3 := r2.cell 3; have g4 := r2.cell 4; have g5 := r2.cell 5; have g6 := r2.cell 6; have g7 := r2.cell 7
  simp only [List.getElem?_cons_zero, List.getElem?_cons_succ] at g0 g1 g2 g3 g4 g5 g6 g7
  exact bodyPost_ret (v := .tuple #[.agg #[.int .u8 e0, .int .u8 e1, .int .u8 e2, .int .u8 e3, .int .u8 e4, .int .u8 e5, .int .u8 e6, .int .u8 e7], .int .i64 x, .int .i64 y]) (by simp [results, Tryz.results21, go_sem, g0, g1, g2, g3, g4, g5, g6, g7]) rfl ⟨rfl, b2.out⟩

set_option maxRecDepth 100000 in
set_option maxHeartbeats 4000000 in
theorem specStepUp_any (b n cap : Nat) (zs : List Int) (d0 d1 d2 d3 d4 d5 d6 d7 : Int) (w : World) (h : Stk w b zs) (hn : n = zs.length) (hcap : n ≤ cap) (ho : Oct d0 d1 d2 d3 d4 d5 d6 d7) :
    Calls Tryz.prog 20 #[.slice (some ⟨b, 0, none⟩) n cap, .agg #[.int .u8 d0, .int .u8 d1, .int .u8 d2, .int .u8 d3, .int .u8 d4, .int .u8 d5, .int .u8 d6, .int .u8 d7]] w fun e w' => e = .returned (.tuple #[.agg #[.int .u8 (dg (stepR zs [d0, d1, d2, d3, d4, d5, d6, d7] (1)).1 0), .int .u8 (dg (stepR zs [d0, d1, d2, d3, d4, d5, d6, d7] (1)).1 1), .int .u8 (dg (stepR zs [d0, d1, d2, d3, d4, d5, d6, d7] (1)).1 2), .int .u8 (dg (stepR zs [d0, d1, d2, d3, d4, d5, d6, d7] (1)).1 3), .int .u8 (dg (stepR zs [d0, d1, d2, d3, d4, d5, d6, d7] (1)).1 4), .int .u8 (dg (stepR zs [d0, d1, d2, d3, d4, d5, d6, d7] (1)).1 5), .int .u8 (dg (stepR zs [d0, d1, d2, d3, d4, d5, d6, d7] (1)).1 6), .int .u8 (dg (stepR zs [d0, d1, d2, d3, d4, d5, d6, d7] (1)).1 7)], .int .i64 (stepR zs [d0, d1, d2, d3, d4, d5, d6, d7] (1)).2.1, .int .i64 (stepR zs [d0, d1, d2, d3, d4, d5, d6, d7] (1)).2.2]) ∧ Below w.heap.size w w' := by
  have hB0 : Below w.heap.size w ((w.alloc (.cells #[.int .u8 d0, .int .u8 d1, .int .u8 d2, .int .u8 d3, .int .u8 d4, .int .u8 d5, .int .u8 d6, .int .u8 d7] 30)).alloc (.cells #[.int .u8 0, .int .u8 0, .int .u8 0, .int .u8 0, .int .u8 0, .int .u8 0, .int .u8 0, .int .u8 0] 30)) := ((Below.refl w.heap.size w).alloc (Nat.le_refl _) _).alloc (by simp) _
  have H1 := hid (h.below hB0 h.1)
  have rR := Row.new (w.alloc (.cells #[.int .u8 d0, .int .u8 d1, .int .u8 d2, .int .u8 d3, .int .u8 d4, .int .u8 d5, .int .u8 d6, .int .u8 d7] 30)) 30 [.int .u8 0, .int .u8 0, .int .u8 0, .int .u8 0, .int .u8 0, .int .u8 0, .int .u8 0, .int .u8 0]
  simp only [World.size_alloc] at rR
  have HR := hid rR
  have HA := hid (fun (w : World) (hS : Stk w b zs) => l01Step_any b n cap zs d0 d1 d2 d3 d4 d5 d6 d7 (1) w hS hn hcap ho (by omega))
  obtain ⟨R, hR⟩ : ∃ R, R = (stepR zs [d0, d1, d2, d3, d4, d5, d6, d7] (1)) := ⟨_, rfl⟩
  rw [← hR] at HA
  rw [← hR]
  obtain ⟨e0, he0⟩ : ∃ x, x = dg R.1 0 := ⟨_, rfl⟩
  obtain ⟨e1, he1⟩ : ∃ x, x = dg R.1 1 := ⟨_, rfl⟩
  obtain ⟨e2, he2⟩ : ∃ x, x = dg R.1 2 := ⟨_, rfl⟩
  obtain ⟨e3, he3⟩ : ∃ x, x = dg R.1 3 := ⟨_, rfl⟩
  obtain ⟨e4, he4⟩ : ∃ x, x = dg R.1 4 := ⟨_, rfl⟩
  obtain ⟨e5, he5⟩ : ∃ x, x = dg R.1 5 := ⟨_, rfl⟩
  obtain ⟨e6, he6⟩ : ∃ x, x = dg R.1 6 := ⟨_, rfl⟩
  obtain ⟨e7, he7⟩ : ∃ x, x = dg R.1 7 := ⟨_, rfl⟩
  obtain ⟨x, hx⟩ : ∃ x, x = R.2.1 := ⟨_, rfl⟩
  obtain ⟨y, hy⟩ : ∃ x, x = R.2.2 := ⟨_, rfl⟩
  rw [← he0, ← he1, ← he2, ← he3, ← he4, ← he5, ← he6, ← he7, ← hx, ← hy] at HA
  rw [← he0, ← he1, ← he2, ← he3, ← he4, ← he5, ← he6, ← he7, ← hx, ← hy]
  clear h hn ho rR hR hx hy he0 he1 he2 he3 he4 he5 he6 he7
  go_enter Tryz.func20, Tryz.ntmps20
  go_wp2_with fail
  refine (HA.out _ H1.out).mono ?_
  rintro e w1 ⟨rfl, hB1⟩
  have hz1 := hB1.size
  simp only [World.size_alloc] at hB1 hz1
  have r1 := (HR.out.below hB1 (by omega))
  have g0 := r1.cell 0; have k0 := r1.frozen 0; have g1 := r1.cell 1; have k1 := r1.frozen 1; have g2 := r1.cell 2; have k2 := r1.frozen 2; have g3 := r1.cell 3; have k3 := r1.frozen 3; have g4 := r1.cell 4; have k4 := r1.frozen 4; have g5 := r1.cell 5; have k5 := r1.frozen 5; have g6 := r1.cell 6; have k6 := r1.frozen 6; have g7 := r1.cell 7; have k7 := r1.frozen 7
  simp only [List.getElem?_cons_zero, List.getElem?_cons_succ] at g0 g1 g2 g3 g4 g5 g6 g7
  have r2 := hid (r1.set8 rfl (.int .u8 e0) (.int .u8 e1) (.int .u8 e2) (.int .u8 e3) (.int .u8 e4) (.int .u8 e5) (.int .u8 e6) (.int .u8 e7))
  have b2 := hid (below_set8 (g := w.heap.size + 1) (hB0.trans (hB1.mono (by omega))) (by omega) (.int .u8 e0) (.int .u8 e1) (.int .u8 e2) (.int .u8 e3) (.int .u8 e4) (.int .u8 e5) (.int .u8 e6) (.int .u8 e7))
  clear r1
  go_wp2_with fail
  clear g0 k0 g1 k1 g2 k2 g3 k3 g4 k4 g5 k5 g6 k6 g7 k7
  obtain ⟨W, hW⟩ : ∃ W, W = ((((((((w1.setCell ⟨w.heap.size + 1, 0, none⟩ (.int .u8 e0)).setCell ⟨w.heap.size + 1, 1, none⟩ (.int .u8 e1)).setCell ⟨w.heap.size + 1, 2, none⟩ (.int .u8 e2)).setCell ⟨w.heap.size + 1, 3, none⟩ (.int .u8 e3)).setCell ⟨w.heap.size + 1, 4, none⟩ (.int .u8 e4)).setCell ⟨w.heap.size + 1, 5, none⟩ (.int .u8 e5)).setCell ⟨w.heap.size + 1, 6, none⟩ (.int .u8 e6)).setCell ⟨w.heap.size + 1, 7, none⟩ (.int .u8 e7)) := ⟨_, rfl⟩
  rw [← hW] at r2 b2 ⊢
  clear hW
  have r2 := r2.out
  have g0 := r2.cell 0; have g1 := r2.cell 1; have g2 := r2.cell 2; have g3 := r2.cell 3; have g4 := r2.cell 4; have g5 := r2.cell 5; have g6 := r2.cell 6; have g7 := r2.cell 7
  simp only [List.getElem?_cons_zero, List.getElem?_cons_succ] at g0 g1 g2 g3 g4 g5 g6 g7
  exact bodyPost_ret (v := .tuple #[.agg #[.int .u8 e0, .int .u8 e1, .int .u8 e2, .int .u8 e3, .int .u8 e4, .int .u8 e5, .int .u8 e6, .int .u8 e7], .int .i64 x, .int .i64 y]) (by simp [results, Tryz.results20, go_sem, g0, g1, g2, g3, g4, g5, g6, g7]) rfl ⟨rfl, b2.out⟩

end Go.Proofs.YtfifnngdmhdkiaaGreatDoor
