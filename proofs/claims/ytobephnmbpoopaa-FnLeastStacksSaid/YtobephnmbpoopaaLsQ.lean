/- The least stack: the size of wheels alike. -/
import Derived.Test.YtobephnmbpoopaaLsP
import Derived.Test.YtobephnmbpoopaaValid
namespace Go.Proofs.Ytobephnmbpoopaa
open Go.RowKit
set_option linter.unusedVariables false
set_option linter.unusedSimpArgs false
theorem stk_rep {w : World} {base n : Nat} {v : Value} {b : Int} (h : w.ownsRow base 5 1 v n ((List.replicate n b).map (Value.int .u8))) (hn : 1 ≤ n) (h8 : n ≤ 8) (hb : 2 ≤ b ∧ b ≤ 100) :
    ∃ g cp rest, v = .slice (some ⟨g, 0, none⟩) n cp ∧ base ≤ g ∧ Row w g 5 ((List.replicate n b).map (Value.int .u8) ++ rest) ∧ Stk w g (List.replicate n b) := by
  rcases h.2 with ⟨_, h0⟩ | ⟨g, cap, cur, rfl, h2, h3, h4, h5, h6, h7⟩
  · omega
  · have hr : Row w g 5 ((List.replicate n b).map (Value.int .u8) ++ cur.toList.drop (n * 1)) := by
      unfold Row
      rw [h3, ← h7, List.take_append_drop]
    refine ⟨g, cap, _, rfl, h2, hr, hr.lt, fun j hj => ?_, fun z hz => ?_, by simp; omega⟩
    · have hj' : j < n := by simpa using hj
      rw [hr.cell j, List.getElem?_append_left (by simp; exact hj'), List.getElem?_map]
      simp [hj']
    · have := (List.mem_replicate.1 hz).2
      omega
theorem rep_size (g n m cp : Nat) (b : Int) (w : World) (h : Stk w g (List.replicate n b)) (hm : m ≤ n) (hb : 2 ≤ b ∧ b ≤ 100) :
    Calls Try.prog 17 #[.slice (some ⟨g, 0, none⟩) m cp] w fun e w' => e = .returned (.int .i64 (min (b ^ m) 1000000000001)) ∧ w = w' := by
  have := l01Size_any g m cp (List.replicate n b) w h (by simp; exact hm) (mem_inB (fun z hz => by rw [(List.mem_replicate.1 hz).2]; exact hb) m (by simp; exact hm))
  rw [List.take_replicate, Nat.min_eq_left hm] at this
  unfold szC at this
  rw [szL_rep] at this
  exact this
theorem rep_less {b size : Int} {m : Nat} (hs : size ≤ 1000000000000) : (min (b ^ m) 1000000000001 < size) ↔ b ^ m < size := by
  obtain ⟨P, hP⟩ : ∃ y, b ^ m = y := ⟨_, rfl⟩
  rw [hP]; omega
end Go.Proofs.Ytobephnmbpoopaa
