/- slices.Repeat of one wheel. -/
import Derived.Test.YtobephnmbpoopaaLsV
import Derived.Laws.CopyOwn
import Derived.Laws.OwnMore
import Derived.Deep.RegionHeld3
namespace Go.Proofs.Ytobephnmbpoopaa
open Go.RowKit
set_option linter.unusedVariables false
set_option linter.unusedSimpArgs false
set_option maxRecDepth 100000 in
set_option maxHeartbeats 1000000 in
theorem mul64_any (n : Nat) (h1 : 1 ≤ n) (h8 : n ≤ 8) (w : World) : Calls Try.prog 27 #[.int .u64 1, .int .u64 (n : Int)] w fun e w' => e = .returned (.tuple #[.int .u64 0, .int .u64 (n : Int)]) ∧ w' = w := by
  have h : n = 1 ∨ n = 2 ∨ n = 3 ∨ n = 4 ∨ n = 5 ∨ n = 6 ∨ n = 7 ∨ n = 8 := by omega
  rcases h with rfl | rfl | rfl | rfl | rfl | rfl | rfl | rfl <;>
  · clear h1 h8
    go_enter Try.func27, Try.ntmps27
    go_wp2_with fail
    go_ret2
    exact ⟨rfl, rfl⟩
set_option maxRecDepth 100000 in
set_option maxHeartbeats 1000000 in
theorem mul_any (n : Nat) (h1 : 1 ≤ n) (h8 : n ≤ 8) (w : World) : Calls Try.prog 23 #[.int .u64 1, .int .u64 (n : Int)] w fun e w' => e = .returned (.tuple #[.int .u64 0, .int .u64 (n : Int)]) ∧ w' = w := by
  have HM := hid (mul64_any n h1 h8 w)
  have wn : IntKind.u64.wrap (n : Int) = (n : Int) := by simp only [IntKind.wrap, IntKind.signed, IntKind.bits]; simp; omega
  clear h1 h8
  go_enter Try.func23, Try.ntmps23
  go_wp2_with fail
  refine HM.out.mono ?_
  rintro e w1 ⟨rfl, hw⟩
  subst hw
  go_wp2_with fail
  go_ret2
  exact ⟨rfl, rfl⟩
theorem oper_copy_row {P : Program} (w : World) {o : Oper} {a : Act} {K : Act → World → Prop} {Q : Exit → Act → World → Prop}
    (d s : Operand) (dT sT : TypeId) (ho : o.op = .call { callee := .builtin .copy, args := #[d, s], argTypes := #[dT, sT] }) (elem : TypeId) (hu : P.underlying dT = some (.slice elem)) (hsz : (P.info? elem).map (·.size) = some 1)
    (g off dLen dCap sLen sCap : Nat) (ad : Addr) (hd : a.eval d = .slice (some ⟨g, off, none⟩) dLen dCap) (hs : a.eval s = .slice (some ad) sLen sCap) (t : TypeId)
    (cur : List Value) (hg : Row w g t cur) (cs : List Value) (hn : cs.length = Nat.min sLen dLen)
    (hsrc : ∀ j v, cs[j]? = some v → w.cell? (ad.add j) = some v) (hfit : off + cs.length ≤ cur.length) (h1 : ∀ v ∈ cs, v.oneCell' = true)
    (hK : ∀ w', Hid (Row w' g t (splice cur off cs)) → Hid (∀ B w0, Below B w0 w → B ≤ g → Below B w0 w') → w'.heap.size = w.heap.size → K (a.put o.dst (goInt cs.length)) w') : Oper.wp P o a w K Q := by
  have hg' : w.heap[g]? = some (.cells cur.toArray t (0, 0)) := hg
  have hrun := run_copy_row (P := P) w dT sT o.type elem g off dLen dCap ad sLen sCap cur.toArray t cs hu hsz hg' hn hsrc (by simpa using hfit) h1
  unfold Oper.wp
  simp [execOp, ho, resolve, invoke, builtin, hd, hs, hrun, Result.andThen]
  refine hK _ (hid ?_) (hid (fun B w0 hb hB => below_setRow hb hB _)) (by simp [World.setRow])
  have := setRow_heap w g cur.toArray (cur.toArray.toList.take off ++ (cs ++ cur.toArray.toList.drop (off + cs.length))).toArray t _ hg'
  simpa [splice, Row] using this
theorem wpList_copy_row {P : Program} {w : World} {ops : Array Oper} {rest : List Oper} {o : Oper} {a : Act} {Q : Exit → Act → World → Prop} (hgd : o.guard = none)
    (d s : Operand) (dT sT : TypeId) (ho : o.op = .call { callee := .builtin .copy, args := #[d, s], argTypes := #[dT, sT] }) (elem : TypeId) (hu : P.underlying dT = some (.slice elem)) (hsz : (P.info? elem).map (·.size) = some 1)
    (g off dLen dCap sLen sCap : Nat) (ad : Addr) (hd : a.eval d = .slice (some ⟨g, off, none⟩) dLen dCap) (hs : a.eval s = .slice (some ad) sLen sCap) (t : TypeId)
    (cur : List Value) (hg : Row w g t cur) (cs : List Value) (hn : cs.length = Nat.min sLen dLen)
    (hsrc : ∀ j v, cs[j]? = some v → w.cell? (ad.add j) = some v) (hfit : off + cs.length ≤ cur.length) (h1 : ∀ v ∈ cs, v.oneCell' = true)
    (hK : ∀ w', Hid (Row w' g t (splice cur off cs)) → Hid (∀ B w0, Below B w0 w → B ≤ g → Below B w0 w') → Hid (w'.heap.size = w.heap.size) → wpList P ops Q rest (a.put o.dst (goInt cs.length)) w') : wpList P ops Q (o :: rest) a w :=
  wpList_plain hgd fun _ hK' => oper_copy_row w d s dT sT ho elem hu hsz g off dLen dCap sLen sCap ad hd hs t cur hg cs hn hsrc hfit h1 (fun w' r b z => hK' _ _ (hK w' r b (hid z)))
/-- k cells are laid, the others are zero -/
def rpL (b : Int) (n k : Nat) : List Value := (List.replicate k b ++ List.replicate (n - k) 0).map (Value.int .u8)
theorem rpL_len (b : Int) (n k : Nat) (h : k ≤ n) : (rpL b n k).length = n := by simp [rpL]; omega
theorem rpL_get (b : Int) (n k j : Nat) (h : k ≤ n) (hj : j < k) : (rpL b n k)[j]? = some (.int .u8 b) := by
  simp [rpL, List.getElem?_append, hj]
theorem rpL_splice (b : Int) (n k m : Nat) (h : k + m ≤ n) : splice (rpL b n k) k (List.replicate m (.int .u8 b)) = rpL b n (k + m) := by
  obtain ⟨r, rfl⟩ : ∃ r, n = k + m + r := ⟨n - (k + m), by omega⟩
  unfold splice rpL
  rw [show k + m + r - k = m + r by omega, show k + m + r - (k + m) = r by omega, List.length_replicate, List.map_append, List.map_replicate, List.map_replicate, List.map_append, List.map_replicate, List.map_replicate]
  have e1 : (List.replicate k (Value.int .u8 b) ++ List.replicate (m + r) (Value.int .u8 0)).take k = List.replicate k (Value.int .u8 b) := by
    rw [List.take_append_of_le_length (by simp)]; simp
  have e2 : (List.replicate k (Value.int .u8 b) ++ List.replicate (m + r) (Value.int .u8 0)).drop (k + m) = List.replicate r (Value.int .u8 0) := by
    rw [List.drop_append]; simp
  rw [e1, e2, ← List.append_assoc, List.replicate_append_replicate]
set_option maxRecDepth 100000 in
set_option maxHeartbeats 2000000 in
theorem repeat_any (b : Int) (hb : 2 ≤ b ∧ b ≤ 100) (n g0 : Nat) (h1 : 1 ≤ n) (h8 : n ≤ 8) (w : World) (h0 : Row w g0 5 [.int .u8 b]) : Calls Try.prog 14 #[.slice (some ⟨g0, 0, none⟩) 1 1, .int .i64 (n : Int)] w fun e w' => ∃ v, e = .returned v ∧ w'.ownsRow w.heap.size 5 1 v n ((List.replicate n b).map (Value.int .u8)) ∧ Below w.heap.size w w' := by
  have HM := hid (mul_any n h1 h8 w)
  obtain ⟨i0, hi0, iz0, iz1, iz2⟩ := info_parts Try.infoU8
  have hmk : (Instr.makeSlice 26 (.int .i64 (n : Int)) (.int .i64 (n : Int))).run Try.prog w = .ok (.slice (some ⟨w.heap.size, 0, none⟩) n n) (w.alloc (.cells (rpL b n 0).toArray 5)) := by
    have hr := run_make (P := Try.prog) w 26 5 i0 (.int .u8 0) Try.underlying26 hi0 iz0 .i64 .i64 n n (by omega) (Int.le_refl _) (by rw [iz2]; omega) (by omega)
    rw [hr, iz1]
    simp only [Int.toNat_natCast, Nat.mul_one, Value.cells]
    have : (madeCells #[Value.int .u8 0] n) = (rpL b n 0).toArray := by
      apply Array.toList_inj.1
      have := toList_madeCells_one (.int .u8 0) n
      rw [this]; simp [rpL]
    rw [this]
  have hR0 : Row (w.alloc (.cells (rpL b n 0).toArray 5)) w.heap.size 5 (rpL b n 0) := Row.new w _ _
  have hS0 := h0.alloc (.cells (rpL b n 0).toArray 5)
  have hB0 : Below w.heap.size w (w.alloc (.cells (rpL b n 0).toArray 5)) := (Below.refl _ _).alloc (Nat.le_refl _) _
  obtain ⟨W, hW⟩ : ∃ y, y = w.alloc (.cells (rpL b n 0).toArray 5) := ⟨_, rfl⟩
  rw [← hW] at hmk hR0 hS0 hB0
  have HR0 := hid hR0; have HB0 := hid hB0; have HS0 := hid hS0
  have wn : IntKind.u64.wrap (n : Int) = (n : Int) := by simp only [IntKind.wrap, IntKind.signed, IntKind.bits]; simp; omega
  have wi : IntKind.i64.wrap (n : Int) = (n : Int) := IntWalk.i64_in _ (by omega)
  have n0 : ¬ (n : Int) < 0 := by omega
  have n9 : ¬ (9223372036854775807 : Int) < (n : Int) := by omega
  have HSZ := hid (show W.heap.size = w.heap.size + 1 by rw [hW]; simp)
  clear hR0 hB0 hS0 hW h0
  go_enter Try.func14, Try.ntmps14
  go_wp2_with fail
  refine HM.out.mono ?_
  rintro e w1 ⟨rfl, hw⟩
  subst hw
  go_wp2_with ((with_reducible show wpList _ _ _ _ _ _); refine wpList_copy_row rfl (.tmp 31) (.tmp 32) 26 26 rfl 5 Try.underlying26 (by rw [hi0]; simp [iz1]) w1.heap.size 0 n n 1 1 ⟨g0, 0, none⟩ rfl rfl 5 _ HR0.out [.int .u8 b] (show 1 = min 1 n by omega) (by intro j v hj; match j, hj with | 0, hj => simp at hj; subst hj; simpa [Addr.add] using HS0.out.cell 0) (by rw [rpL_len b n 0 (by omega)]; simp; omega) (by intro v hv; simp at hv; subst hv; rfl) ?_; intro W1 HR1 HB1 hsz1)
  have HK := hid (HB1.out _ _ HB0.out (Nat.le_refl _))
  have hr1 : Row W1 w1.heap.size 5 (rpL b n 1) := by
    have := HR1.out
    rw [show (rpL b n 0) = rpL b n 0 from rfl, show ([.int .u8 b] : List Value) = List.replicate 1 (.int .u8 b) from rfl, rpL_splice b n 0 1 (by omega)] at this
    exact this
  have HR1' := hid hr1
  clear HR1 HB1 hr1 hsz1 HS0 HR0 HB0
  go_wp2_with fail
  go_loopw [8] (fun i wr => ∃ k : Nat, 1 ≤ k ∧ k ≤ n ∧ i = .int .i64 k ∧ Row wr w1.heap.size 5 (rpL b n k) ∧ Below w1.heap.size w1 wr) (fun i _ => n - (intOf i).toNat)
  case atStart => exact ⟨1, Nat.le_refl _, h1, rfl, HR1'.out, HK.out⟩
  case round =>
    obtain ⟨k, hk1, hk, rfl, hR, hB⟩ := hrel
    by_cases hkn : k < n
    · have k1 : (k : Int) < (n : Int) := by omega
      have k2 : (0 : Int) ≤ (k : Int) := by omega
      have k3 : (k : Int) ≤ (n : Int) := by omega
      have k4 : ¬ n = k := by omega
      have k5 : ¬ (n : Int) = (k : Int) := by omega
      have HR := hid hR; have HB := hid hB
      obtain ⟨m, hm⟩ : ∃ m, min k (n - k) = m := ⟨_, rfl⟩
      have wk : IntKind.i64.wrap ((k : Int) + (m : Int)) = (k : Int) + (m : Int) := IntWalk.i64_in _ (by omega)
      have HM1 := hid hm
      have HML := hid (show (List.replicate m (Value.int .u8 b)).length = Nat.min k (n - k) by rw [List.length_replicate]; exact hm.symm)
      have HMC := hid (fun (d : Nat) => show ∀ j v, (List.replicate m (Value.int .u8 b))[j]? = some v → (wr.drewN d).cell? ((⟨w1.heap.size, 0, none⟩ : Addr).add j) = some v from fun j v hj => by
        have hj2 : j < m := by have := List.getElem?_eq_some_iff.1 hj; simpa using this.1
        have hjk : j < k := by omega
        rw [List.getElem?_replicate] at hj
        simp [hj2] at hj
        subst hj
        have := (show Row (wr.drewN d) w1.heap.size 5 (rpL b n k) from hR).cell j
        rw [rpL_get b n k j hk hjk] at this
        rw [show (⟨w1.heap.size, 0, none⟩ : Addr).add j = ⟨w1.heap.size, j, none⟩ from by unfold Addr.add; split <;> simp_all]
        exact this)
      clear hR hB hm
      go_wp2_with fail
      go_region_held3 (fun _ => True) (trivial)
        ((rw [if_pos (by kernel_rfl)]; refine oper_copy_row _ _ _ _ _ rfl 5 Try.underlying26 rfl w1.heap.size k (n - k) (n - k) k n ⟨w1.heap.size, 0, none⟩ rfl rfl 5 _ HR.out (List.replicate m (.int .u8 b)) HML.out (HMC.out _) (by rw [rpL_len b n k (by omega)]; have := HM1.out; simp; omega) (by intro v hv; simp at hv; rw [hv.2]; rfl) ?_; intro W2 HR2 HB2 hsz2))
      have hr2 := HR2.out
      rw [rpL_splice b n k m (by have := HM1.out; omega)] at hr2
      have HR3 := hid hr2
      have HB3 := hid (HB2.out _ _ (HB.out.trans (show Below w1.heap.size wr (wr.drew) from (Below.refl _ _).drew)) (Nat.le_refl _))
      have HE := hid (show k + m ≤ n ∧ 1 ≤ m by have := HM1.out; omega)
      clear hr2 HR2 HB2 hsz2
      simp only [List.length_replicate]
      go_wp2_with fail
      go_roundw
      case rel => exact ⟨k + m, by omega, HE.out.1, by go_num, HR3.out, HB3.out⟩
      case measure => have := HE.out; simp [intOf]; omega
    · obtain rfl : k = n := by omega
      have k1 : ¬ (k : Int) < (k : Int) := by omega
      have HR := hid hR; have HB := hid hB
      clear hR hB
      go_wp2_with fail
      go_ret
      refine ⟨_, rfl, ?_, HB.out⟩
      rw [show (List.replicate k (Value.int IntKind.u8 b)) = rpL b k k from by unfold rpL; simp]
      exact ⟨by rw [rpL_len b k k (Nat.le_refl _)]; omega, .inr ⟨w1.heap.size, k, (rpL b k k).toArray, rfl, Nat.le_refl _, HR.out, Nat.le_refl _, by unfold maxLen; omega, by simp [rpL_len], by rw [List.take_of_length_le (by simp [rpL_len])]⟩⟩
end Go.Proofs.Ytobephnmbpoopaa
