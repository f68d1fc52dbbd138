/- TicketText. -/
import Derived.Test.YtcbhlljgcndhdaaGreatDoorTkA
import Derived.Test.YtcbhlljgcndhdaaGreatDoorTxE
import Derived.Test.YtcbhlljgcndhdaaGreatDoorTxG
namespace Go.Proofs.YtcbhlljgcndhdaaGreatDoor
open Go.RowKit Go.Shelf
set_option linter.unusedVariables false
set_option linter.unusedSimpArgs false
def tkT (zs ds : List Int) (n c : Int) : List UInt8 := Lib.itoa n ++ [32] ++ txT (ds.take zs.length) (wdD zs) ++ [32] ++ Lib.itoa c
def tkR (zs ds : List Int) (n c : Int) : List UInt8 := if genV zs ds n c then tkT zs ds n c else []
theorem tkR_no {zs ds : List Int} {n c : Int} (h : genV zs ds n c = false) : tkR zs ds n c = [] := by simp [tkR, h]
theorem tkR_yes {zs ds : List Int} {n c : Int} (h : genV zs ds n c = true) : tkR zs ds n c = tkT zs ds n c := by simp [tkR, h]
theorem genV_out {zs ds : List Int} {n c : Int} (h : genV zs ds n c = true) : (1 ≤ n ∧ n ≤ 1000000) ∧ okV zs ds = true ∧ 0 ≤ c ∧ c ≤ 65535 := by
  simp only [genV, Bool.and_eq_true, decide_eq_true_eq, beq_iff_eq] at h
  obtain ⟨h1, h2, h3⟩ := h
  have := chD_bd (chN n) ds 8 (chN_bd n)
  exact ⟨h1, h2, by rw [h3]; exact this⟩
theorem tab_belowK {W W' : World} {B : Nat} (h : Lib.TabIs Tryz.prog W "internal/strconv.uint64pow10" .u64 Lib.pow10Tab) (hb : Below B W W') (hB : 3 < B) : Lib.TabIs Tryz.prog W' "internal/strconv.uint64pow10" .u64 Lib.pow10Tab := var?_below hb (by kernel_rfl) hB h
theorem dec_big (z : Int) (h : 0 ≤ z ∧ z ≤ 10000000) (w : World) : Calls Tryz.prog 36 #[.int .i64 z] w fun e w' => e = .returned (.string ⟨(Lib.itoa z).toArray⟩) ∧ Below w.heap.size w w' := by
  obtain ⟨n, rfl⟩ : ∃ n : Nat, z = (n : Int) := ⟨z.toNat, by omega⟩
  rw [itoa_nat]
  exact dec_any 8 (by omega) n (by omega) w
theorem itoa_big (z : Int) (h : 0 ≤ z ∧ z ≤ 10000000) : (Lib.itoa z).length ≤ 9 := by
  obtain ⟨n, rfl⟩ : ∃ n : Nat, z = (n : Int) := ⟨z.toNat, by omega⟩
  rw [itoa_nat]
  exact dec_len 8 n (by omega)
theorem pad1 (z : Int) (h : 0 ≤ z) : padZ 1 (Lib.itoa z) = Lib.itoa z := by
  have e : ∀ l : List UInt8, 1 ≤ l.length → padZ 1 l = l := fun l hl => by rw [padZ, Nat.sub_eq_zero_of_le hl]; rfl
  apply e
  obtain ⟨m, rfl⟩ : ∃ m : Nat, z = (m : Int) := ⟨z.toNat, by omega⟩
  rw [itoa_nat, Lib.decDigits]
  split <;> simp
theorem dec_i64 (z : Int) (h : 0 ≤ z ∧ z ≤ 10000000) (w : World) (ht : Lib.TabIs Tryz.prog w "internal/strconv.uint64pow10" .u64 Lib.pow10Tab) : Calls Tryz.prog 34 #[.int .i64 z, .int .i64 1] w fun e w' => e = .returned (.string ⟨(Lib.itoa z).toArray⟩) ∧ Below w.heap.size w w' := by
  have := decimal64_any z (by omega) 1 (by omega) (by have := itoa_big z h; omega) w (fmt_tab z (by omega) (by omega) w ht)
  rw [pad1 z h.1] at this
  exact this
theorem txD_len {zs : List Int} {d0 d1 d2 d3 d4 d5 d6 d7 : Int} (hv : okV zs [d0, d1, d2, d3, d4, d5, d6, d7] = true) (ho : Oct d0 d1 d2 d3 d4 d5 d6 d7) : (txT (List.take zs.length [d0, d1, d2, d3, d4, d5, d6, d7]) (wdD zs)).length ≤ 100 := by
  obtain ⟨hv1, hv2⟩ := okV_out hv
  obtain ⟨h1n, h8, hin, _, _⟩ := okL_out hv1
  have hlt := okD_lt hv2 h8 (fun j hj => (oct_bd ho j hj).1)
  have hll : (List.take zs.length [d0, d1, d2, d3, d4, d5, d6, d7]).length = zs.length := by simp; omega
  have := txT_len (List.take zs.length [d0, d1, d2, d3, d4, d5, d6, d7]) (wdD zs) 2 (fun k hk => by
    rw [hll] at hk
    have a := hin k hk; have b := hlt k hk; have c := oct_bd ho k (by omega)
    have e : ug (List.take zs.length [d0, d1, d2, d3, d4, d5, d6, d7]) k = ([d0, d1, d2, d3, d4, d5, d6, d7] : List Int)[k]?.getD 0 := ug_take _ _ _ hk
    unfold txP
    rw [padZ_len, e]
    have q := itoa2 (([d0, d1, d2, d3, d4, d5, d6, d7] : List Int)[k]?.getD 0) (by omega); have r := wdD_le zs k a
    omega)
  rw [hll] at this
  omega
theorem app5 (A B C : List UInt8) : ((((⟨A.toArray⟩ : ByteArray) ++ ⟨#[32]⟩) ++ ⟨B.toArray⟩) ++ ⟨#[32]⟩) ++ ⟨C.toArray⟩ = ⟨(A ++ [32] ++ B ++ [32] ++ C).toArray⟩ := by
  rw [show (⟨#[32]⟩ : ByteArray) = ⟨([32] : List UInt8).toArray⟩ from rfl, app_mk, app_mk, app_mk, app_mk]
end Go.Proofs.YtcbhlljgcndhdaaGreatDoor
