/- EyeReads: the eyes, and what they read: the program's and the model's. -/
import Derived.Test.YtkgldcjbaghapaaBpA
namespace Go.Proofs.Ytkgldcjbaghapaa
open Go.RowKit
theorem Try.infoDigits8 : (Try.prog.info? 29).map (·.size) = some 8 := by kernel_rfl
/-- what an eye sees of the parts d -/
def eyF (e : Nat) (d : Int) : Int := if e = 0 then d / 1000 else (d + 500) / 1000
def rdX (e : Nat) (zs ds : List Int) (j : Nat) : Int := eyF e (ds[j]?.getD 0) % zs[j]?.getD 0
def rdV (e : Nat) (zs ds : List Int) (k : Nat) : List Value := (List.range 8).map fun j => .int .u8 (if j < k then rdX e zs ds j else 0)
theorem rdV_zero (e : Nat) (zs ds : List Int) : rdV e zs ds 0 = [.int .u8 0, .int .u8 0, .int .u8 0, .int .u8 0, .int .u8 0, .int .u8 0, .int .u8 0, .int .u8 0] := by simp [rdV, List.range_succ]
theorem rdV_len (e : Nat) (zs ds : List Int) (k : Nat) : (rdV e zs ds k).length = 8 := by simp [rdV]
theorem rdV_set (e : Nat) (zs ds : List Int) (k : Nat) (hk : k < 8) : (rdV e zs ds k).set k (.int .u8 (rdX e zs ds k)) = rdV e zs ds (k + 1) := by
  apply List.ext_getElem?
  intro j
  simp only [rdV, List.getElem?_set, List.getElem?_map, List.length_map, List.length_range]
  by_cases hj : k = j
  · subst hj
    simp [hk]
  · rw [if_neg hj]
    by_cases h8 : j < 8
    · simp only [List.getElem?_range h8, Option.map_some]
      by_cases h : j < k
      · rw [if_pos h, if_pos (by omega)]
      · rw [if_neg h, if_neg (by omega)]
    · simp [List.getElem?_eq_none (show (List.range 8).length ≤ j by simp; omega)]
theorem rdV_at (e : Nat) (zs ds : List Int) (k : Nat) (hk : k < 8) : (rdV e zs ds k)[k]? = some (.int .u8 0) := by simp [rdV, hk]
theorem ints_rd (e : Nat) (zs ds : List Int) (k : Nat) : ∀ v ∈ rdV e zs ds k, ∃ x : Int, v = .int .u8 x := by
  intro v hv
  simp only [rdV, List.mem_map] at hv
  obtain ⟨j, _, rfl⟩ := hv
  exact ⟨_, rfl⟩
theorem one_of8 {l : List Value} (h : ∀ v ∈ l, ∃ e : Int, v = .int .u8 e) : ∀ v ∈ l, v.oneCell' = true := fun v hv => by
  obtain ⟨e, rfl⟩ := h v hv; rfl
theorem zeros_int8 : ∀ v ∈ ([.int .u8 0, .int .u8 0, .int .u8 0, .int .u8 0, .int .u8 0, .int .u8 0, .int .u8 0, .int .u8 0] : List Value), ∃ e : Int, v = .int .u8 e := by
  intro v hv
  simp only [List.mem_cons, List.not_mem_nil, or_false] at hv
  rcases hv with rfl | rfl | rfl | rfl | rfl | rfl | rfl | rfl <;> exact ⟨0, rfl⟩
def eyR (zs : List Int) (js : List (Int × Int)) (ds : List Int) (y : Int) : List Value × Int :=
  if hasR zs js ds then (if y = 0 then (rdV 0 zs ds zs.length, 0) else if y = 1 then (rdV 1 zs ds zs.length, 0) else ([.int .u8 0, .int .u8 0, .int .u8 0, .int .u8 0, .int .u8 0, .int .u8 0, .int .u8 0, .int .u8 0], 2)) else ([.int .u8 0, .int .u8 0, .int .u8 0, .int .u8 0, .int .u8 0, .int .u8 0, .int .u8 0, .int .u8 0], 1)
theorem eyR_no {zs : List Int} {js : List (Int × Int)} {ds : List Int} {y : Int} (h : hasR zs js ds = false) : eyR zs js ds y = ([.int .u8 0, .int .u8 0, .int .u8 0, .int .u8 0, .int .u8 0, .int .u8 0, .int .u8 0, .int .u8 0], 1) := by simp [eyR, h]
theorem eyR_out {zs : List Int} {js : List (Int × Int)} {ds : List Int} {y : Int} (h : hasR zs js ds = true) (h0 : y ≠ 0) (h1 : y ≠ 1) : eyR zs js ds y = ([.int .u8 0, .int .u8 0, .int .u8 0, .int .u8 0, .int .u8 0, .int .u8 0, .int .u8 0, .int .u8 0], 2) := by simp [eyR, h, h0, h1]
theorem eyR_zero {zs : List Int} {js : List (Int × Int)} {ds : List Int} (h : hasR zs js ds = true) : eyR zs js ds 0 = (rdV 0 zs ds zs.length, 0) := by simp [eyR, h]
theorem eyR_one {zs : List Int} {js : List (Int × Int)} {ds : List Int} (h : hasR zs js ds = true) : eyR zs js ds 1 = (rdV 1 zs ds zs.length, 0) := by simp [eyR, h]
theorem oct_of8 (l : List Value) (hl : l.length = 8) (h : ∀ v ∈ l, ∃ e : Int, v = .int .u8 e) : ∃ e0 e1 e2 e3 e4 e5 e6 e7 : Int, l = [.int .u8 e0, .int .u8 e1, .int .u8 e2, .int .u8 e3, .int .u8 e4, .int .u8 e5, .int .u8 e6, .int .u8 e7] := by
  match l, hl with
  | [a0, a1, a2, a3, a4, a5, a6, a7], _ =>
    obtain ⟨e0, rfl⟩ := h a0 (by simp)
    obtain ⟨e1, rfl⟩ := h a1 (by simp)
    obtain ⟨e2, rfl⟩ := h a2 (by simp)
    obtain ⟨e3, rfl⟩ := h a3 (by simp)
    obtain ⟨e4, rfl⟩ := h a4 (by simp)
    obtain ⟨e5, rfl⟩ := h a5 (by simp)
    obtain ⟨e6, rfl⟩ := h a6 (by simp)
    obtain ⟨e7, rfl⟩ := h a7 (by simp)
    exact ⟨e0, e1, e2, e3, e4, e5, e6, e7, rfl⟩
theorem eyR_oct (zs : List Int) (js : List (Int × Int)) (d0 d1 d2 d3 d4 d5 d6 d7 y : Int) : ∃ e0 e1 e2 e3 e4 e5 e6 e7 : Int, (eyR zs js [d0, d1, d2, d3, d4, d5, d6, d7] y).1 = [.int .u8 e0, .int .u8 e1, .int .u8 e2, .int .u8 e3, .int .u8 e4, .int .u8 e5, .int .u8 e6, .int .u8 e7] := by
  unfold eyR
  split
  · split
    · exact oct_of8 _ (rdV_len _ _ _ _) (ints_rd _ _ _ _)
    · split
      · exact oct_of8 _ (rdV_len _ _ _ _) (ints_rd _ _ _ _)
      · exact oct_of8 _ rfl zeros_int8
  · exact oct_of8 _ rfl zeros_int8
theorem eyF_bd (e : Nat) (d z : Int) (hz : 2 ≤ z ∧ z ≤ 100) (hd : 0 ≤ d ∧ d < z * 1000) : 0 ≤ eyF e d ∧ eyF e d ≤ 100 := by
  unfold eyF; split <;> omega
theorem eyF_zero (d z : Int) (hz : 2 ≤ z ∧ z ≤ 100) (hd : 0 ≤ d ∧ d < z * 1000) : eyF 0 d % z = d / 1000 := by
  show (if (0 : Nat) = 0 then d / 1000 else _) % z = d / 1000
  rw [if_pos rfl, Int.emod_eq_of_lt (by omega) (by omega)]
theorem eyF_one (d z : Int) : eyF 1 d % z = (d + 500) / 1000 % z := rfl
set_option maxHeartbeats 400000 in
theorem look_zero (w : World) : Calls Try.prog 30 #[.int .i64 0] w fun e w' => e = .returned (.tuple #[.func (Fn.func 36) #[] #[], .bool true]) ∧ Below w.heap.size w w' := by
  go_enter Try.func30, Try.ntmps30
  go_wp2
  go_ret2
  exact ⟨rfl, (Below.refl _ _).alloc (Nat.le_refl _) _⟩
set_option maxHeartbeats 400000 in
theorem look_one (w : World) : Calls Try.prog 30 #[.int .i64 1] w fun e w' => e = .returned (.tuple #[.func (Fn.func 49) #[] #[], .bool true]) ∧ Below w.heap.size w w' := by
  go_enter Try.func30, Try.ntmps30
  go_wp2
  go_ret2
  exact ⟨rfl, (Below.refl _ _).alloc (Nat.le_refl _) _⟩
set_option maxHeartbeats 400000 in
theorem look_no (y : Int) (w : World) (h : y < 0 ∨ 2 ≤ y) : Calls Try.prog 30 #[.int .i64 y] w fun e w' => e = .returned (.tuple #[.nilFunc, .bool false]) ∧ Below w.heap.size w w' := by
  rcases h with h | h
  · go_enter Try.func30, Try.ntmps30
    go_wp2
    go_ret2
    exact ⟨rfl, (Below.refl _ _).alloc (Nat.le_refl _) _⟩
  · have h0 : ¬ y < 0 := by omega
    go_enter Try.func30, Try.ntmps30
    go_wp2
    go_ret2
    exact ⟨rfl, (Below.refl _ _).alloc (Nat.le_refl _) _⟩
set_option maxHeartbeats 400000 in
theorem passed_any (d0 d1 d2 d3 d4 d5 d6 d7 : Int) (k : Nat) (d : Int) (w : World) (hk : k < 8) (hd : d = [d0, d1, d2, d3, d4, d5, d6, d7][k]?.getD 0) (hb : 0 ≤ d ∧ d ≤ 1000000) :
    Calls Try.prog 36 #[.agg ([.int .i64 d0, .int .i64 d1, .int .i64 d2, .int .i64 d3, .int .i64 d4, .int .i64 d5, .int .i64 d6, .int .i64 d7] : List Value).toArray, .int .i64 k] w fun e w' => e = .returned (.int .i64 (eyF 0 d)) ∧ Below w.heap.size w w' := by
  have r := Row.new w 37 [.int .i64 d0, .int .i64 d1, .int .i64 d2, .int .i64 d3, .int .i64 d4, .int .i64 d5, .int .i64 d6, .int .i64 d7]
  have c := (r.cell k).trans (dp_at d0 d1 d2 d3 d4 d5 d6 d7 k hk)
  rw [← hd] at c
  have hk0 : (k : Int) < 8 := by omega
  have h0 := hb.1
  have h9 := hb.2
  clear hd r hb
  go_enter Try.func36, Try.ntmps36
  go_wp2_with fail
  go_ret
  exact ⟨rfl, (Below.refl _ _).alloc (Nat.le_refl _) _⟩
set_option maxHeartbeats 400000 in
theorem nearest_any (d0 d1 d2 d3 d4 d5 d6 d7 : Int) (k : Nat) (d : Int) (w : World) (hk : k < 8) (hd : d = [d0, d1, d2, d3, d4, d5, d6, d7][k]?.getD 0) (hb : 0 ≤ d ∧ d ≤ 1000000) :
    Calls Try.prog 49 #[.agg ([.int .i64 d0, .int .i64 d1, .int .i64 d2, .int .i64 d3, .int .i64 d4, .int .i64 d5, .int .i64 d6, .int .i64 d7] : List Value).toArray, .int .i64 k] w fun e w' => e = .returned (.int .i64 (eyF 1 d)) ∧ Below w.heap.size w w' := by
  have r := Row.new w 37 [.int .i64 d0, .int .i64 d1, .int .i64 d2, .int .i64 d3, .int .i64 d4, .int .i64 d5, .int .i64 d6, .int .i64 d7]
  have c := (r.cell k).trans (dp_at d0 d1 d2 d3 d4 d5 d6 d7 k hk)
  rw [← hd] at c
  have hk0 : (k : Int) < 8 := by omega
  have h0 := hb.1
  have h9 := hb.2
  clear hd r hb
  go_enter Try.func49, Try.ntmps49
  go_wp2_with fail
  go_ret
  exact ⟨rfl, (Below.refl _ _).alloc (Nat.le_refl _) _⟩
set_option maxRecDepth 100000 in
set_option maxHeartbeats 1000000 in
theorem reads_zero (b n cap g m cap' : Nat) (zs : List Int) (js : List (Int × Int)) (d0 d1 d2 d3 d4 d5 d6 d7 : Int) (w : World) (hS : Stk w b zs) (hJ : Jst w g js) (hn : n = zs.length) (hR : hasR zs js [d0, d1, d2, d3, d4, d5, d6, d7] = true) :
    Calls Try.prog 31 #[.agg #[.slice (some ⟨b, 0, none⟩) n cap, .slice (some ⟨g, 0, none⟩) m cap'], .agg ([.int .i64 d0, .int .i64 d1, .int .i64 d2, .int .i64 d3, .int .i64 d4, .int .i64 d5, .int .i64 d6, .int .i64 d7] : List Value).toArray, .func (Fn.func 36) #[] #[]] w fun e w' => e = .returned (.agg (rdV 0 zs [d0, d1, d2, d3, d4, d5, d6, d7] n).toArray) ∧ Below w.heap.size w w' := by
  have bel1 : Below (w.alloc (.cells #[.slice (some ⟨b, 0, none⟩) n cap, .slice (some ⟨g, 0, none⟩) m cap'] 35)).heap.size (w.alloc (.cells #[.slice (some ⟨b, 0, none⟩) n cap, .slice (some ⟨g, 0, none⟩) m cap'] 35)) ((((w.alloc (.cells #[.slice (some ⟨b, 0, none⟩) n cap, .slice (some ⟨g, 0, none⟩) m cap'] 35)).alloc (.cells #[.int .i64 d0, .int .i64 d1, .int .i64 d2, .int .i64 d3, .int .i64 d4, .int .i64 d5, .int .i64 d6, .int .i64 d7] 37)).alloc (.cells #[.int .u8 0, .int .u8 0, .int .u8 0, .int .u8 0, .int .u8 0, .int .u8 0, .int .u8 0, .int .u8 0] 29)).alloc (.cells #[.int .u8 0, .int .u8 0, .int .u8 0, .int .u8 0, .int .u8 0, .int .u8 0, .int .u8 0, .int .u8 0] 29)) := (((Below.refl _ _).alloc (Nat.le_refl _) _).alloc (by simp) _).alloc (by first | (simp; done) | (simp; omega)) _
  have hB : Below w.heap.size w ((((w.alloc (.cells #[.slice (some ⟨b, 0, none⟩) n cap, .slice (some ⟨g, 0, none⟩) m cap'] 35)).alloc (.cells #[.int .i64 d0, .int .i64 d1, .int .i64 d2, .int .i64 d3, .int .i64 d4, .int .i64 d5, .int .i64 d6, .int .i64 d7] 37)).alloc (.cells #[.int .u8 0, .int .u8 0, .int .u8 0, .int .u8 0, .int .u8 0, .int .u8 0, .int .u8 0, .int .u8 0] 29)).alloc (.cells #[.int .u8 0, .int .u8 0, .int .u8 0, .int .u8 0, .int .u8 0, .int .u8 0, .int .u8 0, .int .u8 0] 29)) := ((((Below.refl _ _).alloc (Nat.le_refl _) _).alloc (by simp) _).alloc (by first | (simp; done) | (simp; omega)) _).alloc (by first | (simp; done) | (simp; omega)) _
  have M := (MoAt.new w b n cap g m cap' zs js hS hJ).keep bel1
  have rP := ((Row.new (w.alloc (.cells #[.slice (some ⟨b, 0, none⟩) n cap, .slice (some ⟨g, 0, none⟩) m cap'] 35)) 37 [.int .i64 d0, .int .i64 d1, .int .i64 d2, .int .i64 d3, .int .i64 d4, .int .i64 d5, .int .i64 d6, .int .i64 d7]).alloc (.cells #[.int .u8 0, .int .u8 0, .int .u8 0, .int .u8 0, .int .u8 0, .int .u8 0, .int .u8 0, .int .u8 0] 29)).alloc (.cells #[.int .u8 0, .int .u8 0, .int .u8 0, .int .u8 0, .int .u8 0, .int .u8 0, .int .u8 0, .int .u8 0] 29)
  have rR := (Row.new ((w.alloc (.cells #[.slice (some ⟨b, 0, none⟩) n cap, .slice (some ⟨g, 0, none⟩) m cap'] 35)).alloc (.cells #[.int .i64 d0, .int .i64 d1, .int .i64 d2, .int .i64 d3, .int .i64 d4, .int .i64 d5, .int .i64 d6, .int .i64 d7] 37)) 29 [.int .u8 0, .int .u8 0, .int .u8 0, .int .u8 0, .int .u8 0, .int .u8 0, .int .u8 0, .int .u8 0]).alloc (.cells #[.int .u8 0, .int .u8 0, .int .u8 0, .int .u8 0, .int .u8 0, .int .u8 0, .int .u8 0, .int .u8 0] 29)
  have rD := Row.new (((w.alloc (.cells #[.slice (some ⟨b, 0, none⟩) n cap, .slice (some ⟨g, 0, none⟩) m cap'] 35)).alloc (.cells #[.int .i64 d0, .int .i64 d1, .int .i64 d2, .int .i64 d3, .int .i64 d4, .int .i64 d5, .int .i64 d6, .int .i64 d7] 37)).alloc (.cells #[.int .u8 0, .int .u8 0, .int .u8 0, .int .u8 0, .int .u8 0, .int .u8 0, .int .u8 0, .int .u8 0] 29)) 29 [.int .u8 0, .int .u8 0, .int .u8 0, .int .u8 0, .int .u8 0, .int .u8 0, .int .u8 0, .int .u8 0]
  simp only [World.size_alloc] at rP rR rD
  have hi := Try.infoParts
  have hd := Try.infoDigits8
  obtain ⟨hv1, hv2⟩ := hasR_out hR
  obtain ⟨hz1, _, _⟩ := okM_out hv1
  have hn8 : n ≤ 8 := by have := (okL_in hz1).1; omega
  have HZ := hid (okL_in hz1).2
  have HQ := hid hv2
  have HN := hid hn
  obtain ⟨p0, p1⟩ := M.cells
  have hS0 := hS.1; have hG0 := hJ.1
  clear hS hJ bel1 hn hR hv1 hv2 hz1
  go_enter Try.func31, Try.ntmps31
  go_wp2_with fail
  clear p0 p1
  go_loopw [13] (fun i wr => ∃ k : Nat, k ≤ n ∧ i = .int .i64 k ∧ MoAt wr w.heap.size b n cap g m cap' zs js ∧ Row wr (w.heap.size + 1) 37 [.int .i64 d0, .int .i64 d1, .int .i64 d2, .int .i64 d3, .int .i64 d4, .int .i64 d5, .int .i64 d6, .int .i64 d7] ∧ Row wr (w.heap.size + 1 + 1) 29 [.int .u8 0, .int .u8 0, .int .u8 0, .int .u8 0, .int .u8 0, .int .u8 0, .int .u8 0, .int .u8 0] ∧ Row wr (w.heap.size + 1 + 1 + 1) 29 (rdV 0 zs [d0, d1, d2, d3, d4, d5, d6, d7] k) ∧ Below w.heap.size w wr) (fun i _ => n - (intOf i).toNat)
  case atStart => exact ⟨0, Nat.zero_le _, rfl, M, rP, rR, by rw [rdV_zero]; exact rD, hB⟩
  case round =>
    clear M rP rR rD hB
    obtain ⟨k, hk, rfl, M, rP, rR, rD, hB⟩ := hrel
    by_cases hlt : k < n
    · have hkz : k < zs.length := by rw [← HN.out]; exact hlt
      have hk8 : k < 8 := by omega
      have xz := M.2.1.2.1 k hkz
      have hzb := HZ.out k hkz
      have hdb := okPs_out HQ.out k hk8
      rw [endP_low hkz] at hdb
      have hX0 : rdX 0 zs [d0, d1, d2, d3, d4, d5, d6, d7] k = eyF 0 ([d0, d1, d2, d3, d4, d5, d6, d7][k]?.getD 0) % zs[k]?.getD 0 := rfl
      obtain ⟨z, hz⟩ : ∃ z, z = zs[k]?.getD 0 := ⟨_, rfl⟩
      obtain ⟨d, hdd⟩ : ∃ d, d = [d0, d1, d2, d3, d4, d5, d6, d7][k]?.getD 0 := ⟨_, rfl⟩
      rw [← hz] at xz hzb hdb hX0
      rw [← hdd] at hdb hX0
      have hv := eyF_bd 0 d z hzb hdb
      have HC := hid (fun w => passed_any d0 d1 d2 d3 d4 d5 d6 d7 k d w hk8 hdd ⟨hdb.1, by omega⟩)
      obtain ⟨v, hvv⟩ : ∃ v, v = eyF 0 d := ⟨_, rfl⟩
      rw [← hvv] at hv hX0 HC
      have HX := hid hX0
      have hz2 := hzb.1
      have hz9 := hzb.2
      have hv0 := hv.1
      have hv9 := hv.2
      have hm0 : 0 ≤ v % z := Int.emod_nonneg _ (by omega)
      have hm9 : v % z < z := Int.emod_lt_of_pos _ (by omega)
      have hm99 : v % z ≤ 255 := by omega
      have hk0 : (k : Int) < 8 := by omega
      have hlt0 : (k : Int) < (n : Int) := by omega
      have HM := hid M; have HP := hid rP; have HR := hid rR; have HD := hid rD; have HB := hid hB
      have hzr := hB.size
      have l3 := rD.lt
      clear hX0 hdd hz hzb hdb hvv hv M rP rR rD hB hkz
      go_wp2_with ((with_reducible refine wpList_load_row rfl 37 _ rfl (w.heap.size + 1) ?_ 37 ([.int .i64 d0, .int .i64 d1, .int .i64 d2, .int .i64 d3, .int .i64 d4, .int .i64 d5, .int .i64 d6, .int .i64 d7] : List Value).toArray (0, 0) _ ?_ Try.underlying37 ?_ ?_ ?_); rfl; exact HP.out; rfl; exact hi)
      with_reducible refine (HC.out _).mono ?_
      rintro e w1 ⟨rfl, hC⟩
      clear xz
      have M := HM.out.keep hC
      have rP := HP.out.below hC HP.out.lt
      have rR := HR.out.below hC HR.out.lt
      have rD := HD.out.below hC HD.out.lt
      have hB := HB.out.trans (hC.mono hzr)
      have o1 := (rD.cell k).trans (rdV_at 0 zs [d0, d1, d2, d3, d4, d5, d6, d7] k hk8)
      have f1 := rD.frozen k
      have hX : Below (w.heap.size + 1 + 1 + 1) w1 (w1.setCell ⟨w.heap.size + 1 + 1 + 1, k, none⟩ (.int .u8 (v % z))) := (Below.refl _ _).setCell (p := ⟨w.heap.size + 1 + 1 + 1, k, none⟩) (Nat.le_refl _) _
      have SD := rD.set k (.int .u8 (rdX 0 zs [d0, d1, d2, d3, d4, d5, d6, d7] k))
      rw [rdV_set 0 zs [d0, d1, d2, d3, d4, d5, d6, d7] k hk8, HX.out] at SD
      have SP := rP.other (a := ⟨w.heap.size + 1 + 1 + 1, k, none⟩) (by first | (simp; done) | (simp; omega)) (.int .u8 (v % z))
      have SR := rR.other (a := ⟨w.heap.size + 1 + 1 + 1, k, none⟩) (by simp) (.int .u8 (v % z))
      have SM : MoAt (w1.setCell ⟨w.heap.size + 1 + 1 + 1, k, none⟩ (.int .u8 (v % z))) w.heap.size b n cap g m cap' zs js := ⟨M.1.other (by first | (simp; done) | (simp; omega)) _, M.2.1.below hX (by have := hS0; omega), M.2.2.below hX (by have := hG0; omega)⟩
      have SB := hB.trans (hX.mono (by omega))
      clear M rP rR rD hB hX hC
      go_wp2_with fail
      go_roundw
      case rel => exact ⟨k + 1, by omega, by go_num, SM, SP, SR, SD, SB⟩
      case measure => simp [intOf]; omega
    · obtain rfl : n = k := by omega
      have T1 := rR.there (rdV 0 zs [d0, d1, d2, d3, d4, d5, d6, d7] n).toArray.size (by simp [rdV])
      have R1 := hid (rR.setCells (ys := rdV 0 zs [d0, d1, d2, d3, d4, d5, d6, d7] n) (by simp [rdV]))
      have SB := hid (below_setCells (rdV 0 zs [d0, d1, d2, d3, d4, d5, d6, d7] n) 0 _ hB (g := w.heap.size + 1 + 1) (by omega))
      have HD := hid rD
      have hd8 : (Try.prog.info? 29).map (·.size) = some (rdV 0 zs [d0, d1, d2, d3, d4, d5, d6, d7] n).toArray.size := by rw [hd]; simp [rdV]
      clear M rP rR rD hB
      go_wp2_with (first | ((with_reducible refine wpList_store_mid rfl 29 _ _ rfl (w.heap.size + 1 + 1) 0 (rdV 0 zs [d0, d1, d2, d3, d4, d5, d6, d7] n : List Value).toArray ?_ ?_ ?_ ?_ (all_oneCell_toArray (one_of8 (ints_rd _ _ _ _))) ?_); rfl; rfl; exact T1; exact hd8) | ((with_reducible refine wpList_load_row rfl 29 _ rfl (w.heap.size + 1 + 1 + 1) ?_ 29 (rdV 0 zs [d0, d1, d2, d3, d4, d5, d6, d7] n : List Value).toArray (0, 0) _ ?_ Try.underlying29 ?_ ?_ ?_); rfl; exact HD.out; rfl; exact hd8))
      exact bodyPost_ret (v := .agg (rdV 0 zs [d0, d1, d2, d3, d4, d5, d6, d7] n).toArray) (results_cell_row (fn := Try.f31) rfl _ _ _ _ _ (0, 0) _ rfl R1.out Try.underlying29 rfl hd8) rfl ⟨rfl, SB.out⟩
set_option maxRecDepth 100000 in
set_option maxHeartbeats 1000000 in
theorem reads_one (b n cap g m cap' : Nat) (zs : List Int) (js : List (Int × Int)) (d0 d1 d2 d3 d4 d5 d6 d7 : Int) (w : World) (hS : Stk w b zs) (hJ : Jst w g js) (hn : n = zs.length) (hR : hasR zs js [d0, d1, d2, d3, d4, d5, d6, d7] = true) :
    Calls Try.prog 31 #[.agg #[.slice (some ⟨b, 0, none⟩) n cap, .slice (some ⟨g, 0, none⟩) m cap'], .agg ([.int .i64 d0, .int .i64 d1, .int .i64 d2, .int .i64 d3, .int .i64 d4, .int .i64 d5, .int .i64 d6, .int .i64 d7] : List Value).toArray, .func (Fn.func 49) #[] #[]] w fun e w' => e = .returned (.agg (rdV 1 zs [d0, d1, d2, d3, d4, d5, d6, d7] n).toArray) ∧ Below w.heap.size w w' := by
  have bel1 : Below (w.alloc (.cells #[.slice (some ⟨b, 0, none⟩) n cap, .slice (some ⟨g, 0, none⟩) m cap'] 35)).heap.size (w.alloc (.cells #[.slice (some ⟨b, 0, none⟩) n cap, .slice (some ⟨g, 0, none⟩) m cap'] 35)) ((((w.alloc (.cells #[.slice (some ⟨b, 0, none⟩) n cap, .slice (some ⟨g, 0, none⟩) m cap'] 35)).alloc (.cells #[.int .i64 d0, .int .i64 d1, .int .i64 d2, .int .i64 d3, .int .i64 d4, .int .i64 d5, .int .i64 d6, .int .i64 d7] 37)).alloc (.cells #[.int .u8 0, .int .u8 0, .int .u8 0, .int .u8 0, .int .u8 0, .int .u8 0, .int .u8 0, .int .u8 0] 29)).alloc (.cells #[.int .u8 0, .int .u8 0, .int .u8 0, .int .u8 0, .int .u8 0, .int .u8 0, .int .u8 0, .int .u8 0] 29)) := (((Below.refl _ _).alloc (Nat.le_refl _) _).alloc (by simp) _).alloc (by first | (simp; done) | (simp; omega)) _
  have hB : Below w.heap.size w ((((w.alloc (.cells #[.slice (some ⟨b, 0, none⟩) n cap, .slice (some ⟨g, 0, none⟩) m cap'] 35)).alloc (.cells #[.int .i64 d0, .int .i64 d1, .int .i64 d2, .int .i64 d3, .int .i64 d4, .int .i64 d5, .int .i64 d6, .int .i64 d7] 37)).alloc (.cells #[.int .u8 0, .int .u8 0, .int .u8 0, .int .u8 0, .int .u8 0, .int .u8 0, .int .u8 0, .int .u8 0] 29)).alloc (.cells #[.int .u8 0, .int .u8 0, .int .u8 0, .int .u8 0, .int .u8 0, .int .u8 0, .int .u8 0, .int .u8 0] 29)) := ((((Below.refl _ _).alloc (Nat.le_refl _) _).alloc (by simp) _).alloc (by first | (simp; done) | (simp; omega)) _).alloc (by first | (simp; done) | (simp; omega)) _
  have M := (MoAt.new w b n cap g m cap' zs js hS hJ).keep bel1
  have rP := ((Row.new (w.alloc (.cells #[.slice (some ⟨b, 0, none⟩) n cap, .slice (some ⟨g, 0, none⟩) m cap'] 35)) 37 [.int .i64 d0, .int .i64 d1, .int .i64 d2, .int .i64 d3, .int .i64 d4, .int .i64 d5, .int .i64 d6, .int .i64 d7]).alloc (.cells #[.int .u8 0, .int .u8 0, .int .u8 0, .int .u8 0, .int .u8 0, .int .u8 0, .int .u8 0, .int .u8 0] 29)).alloc (.cells #[.int .u8 0, .int .u8 0, .int .u8 0, .int .u8 0, .int .u8 0, .int .u8 0, .int .u8 0, .int .u8 0] 29)
  have rR := (Row.new ((w.alloc (.cells #[.slice (some ⟨b, 0, none⟩) n cap, .slice (some ⟨g, 0, none⟩) m cap'] 35)).alloc (.cells #[.int .i64 d0, .int .i64 d1, .int .i64 d2, .int .i64 d3, .int .i64 d4, .int .i64 d5, .int .i64 d6, .int .i64 d7] 37)) 29 [.int .u8 0, .int .u8 0, .int .u8 0, .int .u8 0, .int .u8 0, .int .u8 0, .int .u8 0, .int .u8 0]).alloc (.cells #[.int .u8 0, .int .u8 0, .int .u8 0, .int .u8 0, .int .u8 0, .int .u8 0, .int .u8 0, .int .u8 0] 29)
  have rD := Row.new (((w.alloc (.cells #[.slice (some ⟨b, 0, none⟩) n cap, .slice (some ⟨g, 0, none⟩) m cap'] 35)).alloc (.cells #[.int .i64 d0, .int .i64 d1, .int .i64 d2, .int .i64 d3, .int .i64 d4, .int .i64 d5, .int .i64 d6, .int .i64 d7] 37)).alloc (.cells #[.int .u8 0, .int .u8 0, .int .u8 0, .int .u8 0, .int .u8 0, .int .u8 0, .int .u8 0, .int .u8 0] 29)) 29 [.int .u8 0, .int .u8 0, .int .u8 0, .int .u8 0, .int .u8 0, .int .u8 0, .int .u8 0, .int .u8 0]
  simp only [World.size_alloc] at rP rR rD
  have hi := Try.infoParts
  have hd := Try.infoDigits8
  obtain ⟨hv1, hv2⟩ := hasR_out hR
  obtain ⟨hz1, _, _⟩ := okM_out hv1
  have hn8 : n ≤ 8 := by have := (okL_in hz1).1; omega
  have HZ := hid (okL_in hz1).2
  have HQ := hid hv2
  have HN := hid hn
  obtain ⟨p0, p1⟩ := M.cells
  have hS0 := hS.1; have hG0 := hJ.1
  clear hS hJ bel1 hn hR hv1 hv2 hz1
  go_enter Try.func31, Try.ntmps31
  go_wp2_with fail
  clear p0 p1
  go_loopw [13] (fun i wr => ∃ k : Nat, k ≤ n ∧ i = .int .i64 k ∧ MoAt wr w.heap.size b n cap g m cap' zs js ∧ Row wr (w.heap.size + 1) 37 [.int .i64 d0, .int .i64 d1, .int .i64 d2, .int .i64 d3, .int .i64 d4, .int .i64 d5, .int .i64 d6, .int .i64 d7] ∧ Row wr (w.heap.size + 1 + 1) 29 [.int .u8 0, .int .u8 0, .int .u8 0, .int .u8 0, .int .u8 0, .int .u8 0, .int .u8 0, .int .u8 0] ∧ Row wr (w.heap.size + 1 + 1 + 1) 29 (rdV 1 zs [d0, d1, d2, d3, d4, d5, d6, d7] k) ∧ Below w.heap.size w wr) (fun i _ => n - (intOf i).toNat)
  case atStart => exact ⟨0, Nat.zero_le _, rfl, M, rP, rR, by rw [rdV_zero]; exact rD, hB⟩
  case round =>
    clear M rP rR rD hB
    obtain ⟨k, hk, rfl, M, rP, rR, rD, hB⟩ := hrel
    by_cases hlt : k < n
    · have hkz : k < zs.length := by rw [← HN.out]; exact hlt
      have hk8 : k < 8 := by omega
      have xz := M.2.1.2.1 k hkz
      have hzb := HZ.out k hkz
      have hdb := okPs_out HQ.out k hk8
      rw [endP_low hkz] at hdb
      have hX0 : rdX 1 zs [d0, d1, d2, d3, d4, d5, d6, d7] k = eyF 1 ([d0, d1, d2, d3, d4, d5, d6, d7][k]?.getD 0) % zs[k]?.getD 0 := rfl
      obtain ⟨z, hz⟩ : ∃ z, z = zs[k]?.getD 0 := ⟨_, rfl⟩
      obtain ⟨d, hdd⟩ : ∃ d, d = [d0, d1, d2, d3, d4, d5, d6, d7][k]?.getD 0 := ⟨_, rfl⟩
      rw [← hz] at xz hzb hdb hX0
      rw [← hdd] at hdb hX0
      have hv := eyF_bd 1 d z hzb hdb
      have HC := hid (fun w => nearest_any d0 d1 d2 d3 d4 d5 d6 d7 k d w hk8 hdd ⟨hdb.1, by omega⟩)
      obtain ⟨v, hvv⟩ : ∃ v, v = eyF 1 d := ⟨_, rfl⟩
      rw [← hvv] at hv hX0 HC
      have HX := hid hX0
      have hz2 := hzb.1
      have hz9 := hzb.2
      have hv0 := hv.1
      have hv9 := hv.2
      have hm0 : 0 ≤ v % z := Int.emod_nonneg _ (by omega)
      have hm9 : v % z < z := Int.emod_lt_of_pos _ (by omega)
      have hm99 : v % z ≤ 255 := by omega
      have hk0 : (k : Int) < 8 := by omega
      have hlt0 : (k : Int) < (n : Int) := by omega
      have HM := hid M; have HP := hid rP; have HR := hid rR; have HD := hid rD; have HB := hid hB
      have hzr := hB.size
      have l3 := rD.lt
      clear hX0 hdd hz hzb hdb hvv hv M rP rR rD hB hkz
      go_wp2_with ((with_reducible refine wpList_load_row rfl 37 _ rfl (w.heap.size + 1) ?_ 37 ([.int .i64 d0, .int .i64 d1, .int .i64 d2, .int .i64 d3, .int .i64 d4, .int .i64 d5, .int .i64 d6, .int .i64 d7] : List Value).toArray (0, 0) _ ?_ Try.underlying37 ?_ ?_ ?_); rfl; exact HP.out; rfl; exact hi)
      with_reducible refine (HC.out _).mono ?_
      rintro e w1 ⟨rfl, hC⟩
      clear xz
      have M := HM.out.keep hC
      have rP := HP.out.below hC HP.out.lt
      have rR := HR.out.below hC HR.out.lt
      have rD := HD.out.below hC HD.out.lt
      have hB := HB.out.trans (hC.mono hzr)
      have o1 := (rD.cell k).trans (rdV_at 1 zs [d0, d1, d2, d3, d4, d5, d6, d7] k hk8)
      have f1 := rD.frozen k
      have hX : Below (w.heap.size + 1 + 1 + 1) w1 (w1.setCell ⟨w.heap.size + 1 + 1 + 1, k, none⟩ (.int .u8 (v % z))) := (Below.refl _ _).setCell (p := ⟨w.heap.size + 1 + 1 + 1, k, none⟩) (Nat.le_refl _) _
      have SD := rD.set k (.int .u8 (rdX 1 zs [d0, d1, d2, d3, d4, d5, d6, d7] k))
      rw [rdV_set 1 zs [d0, d1, d2, d3, d4, d5, d6, d7] k hk8, HX.out] at SD
      have SP := rP.other (a := ⟨w.heap.size + 1 + 1 + 1, k, none⟩) (by first | (simp; done) | (simp; omega)) (.int .u8 (v % z))
      have SR := rR.other (a := ⟨w.heap.size + 1 + 1 + 1, k, none⟩) (by simp) (.int .u8 (v % z))
      have SM : MoAt (w1.setCell ⟨w.heap.size + 1 + 1 + 1, k, none⟩ (.int .u8 (v % z))) w.heap.size b n cap g m cap' zs js := ⟨M.1.other (by first | (simp; done) | (simp; omega)) _, M.2.1.below hX (by have := hS0; omega), M.2.2.below hX (by have := hG0; omega)⟩
      have SB := hB.trans (hX.mono (by omega))
      clear M rP rR rD hB hX hC
      go_wp2_with fail
      go_roundw
      case rel => exact ⟨k + 1, by omega, by go_num, SM, SP, SR, SD, SB⟩
      case measure => simp [intOf]; omega
    · obtain rfl : n = k := by omega
      have T1 := rR.there (rdV 1 zs [d0, d1, d2, d3, d4, d5, d6, d7] n).toArray.size (by simp [rdV])
      have R1 := hid (rR.setCells (ys := rdV 1 zs [d0, d1, d2, d3, d4, d5, d6, d7] n) (by simp [rdV]))
      have SB := hid (below_setCells (rdV 1 zs [d0, d1, d2, d3, d4, d5, d6, d7] n) 0 _ hB (g := w.heap.size + 1 + 1) (by omega))
      have HD := hid rD
      have hd8 : (Try.prog.info? 29).map (·.size) = some (rdV 1 zs [d0, d1, d2, d3, d4, d5, d6, d7] n).toArray.size := by rw [hd]; simp [rdV]
      clear M rP rR rD hB
      go_wp2_with (first | ((with_reducible refine wpList_store_mid rfl 29 _ _ rfl (w.heap.size + 1 + 1) 0 (rdV 1 zs [d0, d1, d2, d3, d4, d5, d6, d7] n : List Value).toArray ?_ ?_ ?_ ?_ (all_oneCell_toArray (one_of8 (ints_rd _ _ _ _))) ?_); rfl; rfl; exact T1; exact hd8) | ((with_reducible refine wpList_load_row rfl 29 _ rfl (w.heap.size + 1 + 1 + 1) ?_ 29 (rdV 1 zs [d0, d1, d2, d3, d4, d5, d6, d7] n : List Value).toArray (0, 0) _ ?_ Try.underlying29 ?_ ?_ ?_); rfl; exact HD.out; rfl; exact hd8))
      exact bodyPost_ret (v := .agg (rdV 1 zs [d0, d1, d2, d3, d4, d5, d6, d7] n).toArray) (results_cell_row (fn := Try.f31) rfl _ _ _ _ _ (0, 0) _ rfl R1.out Try.underlying29 rfl hd8) rfl ⟨rfl, SB.out⟩
end Go.Proofs.Ytkgldcjbaghapaa
