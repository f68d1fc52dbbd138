/- The iterator over a log's intervals, as a range over it takes it. -/
import Derived.Test.YtilbpgcgjbblaaaItv
namespace Go.Proofs.Ytilbpgcgjbblaaa
open Go.RowKit Go.Shelf
theorem itv_in (F : Fence) (m : Nat) (hf : F.fn 41) (hro : F.round = none) (a : Option Addr) (len cap : Nat) (w : World) :
    CallsIn F m Try.prog 41 #[.slice a len cap] w fun e w' => e = .returned (.func (.func 62) #[] #[.pointer (some ⟨w.heap.size, 0, none⟩)]) ∧ w' = w.alloc (.cells #[.slice a len cap] 29) := by
  refine callsIn_of_wp Try.func41 rfl hf ?_ hro
  simp only [Try.ntmps41, List.size_toArray, List.length_cons, List.length_nil, Nat.reduceAdd, Nat.reduceSub, Array.replicate_succ, Array.replicate_zero, List.push_toArray, List.append_toArray, List.nil_append, List.cons_append]
  gi_wp2
  go_ret
  exact ⟨rfl, rfl⟩
theorem itv_stops (F : Fence) (m : Nat) (hf : F.fn 62) (hro : F.round = none) (hm : 1 ≤ m) (Bs b n cap : Nat) (js : List (Int × Int)) (hn : n = js.length) (hl : n ≤ 1048576) (w : World) (hBs : Bs < w.heap.size) (hb : b < w.heap.size)
    (hc : w.cell? ⟨Bs, 0, none⟩ = some (.slice (some ⟨b, 0, none⟩) n cap)) (hI : ∀ j, j < n → w.cell? ⟨b, j * 2, none⟩ = some (.int .i64 (rd js j)) ∧ w.cell? ⟨b, j * 2 + 1, none⟩ = some (.int .i64 (rv js j))) :
    SeqStopsK F m Try.prog 62 #[.pointer (some ⟨Bs, 0, none⟩)] (fun x : Fin (n - 1) => itvA js x.1) (KeepB (fun g => g = b ∨ g = Bs)) (fun ys => ys = List.finRange (n - 1))
      (fun pre => ∃ k, k ≤ n - 1 ∧ pre = (List.finRange (n - 1)).take k) (n - 1) w := fun l J Jx W hW hA _ hY h0 => by
  exact itv1_in F m hf hro hm l Bs b n cap js hn hl J Jx hY (fun pre A B hj hg => hA pre A B none hj hg (fun r e => by cases e)) W ((hW.cell (p := ⟨Bs, 0, none⟩) hBs).trans hc)
    (fun j hj => ⟨(hW.cell (p := ⟨b, j * 2, none⟩) hb).trans (hI j hj).1, (hW.cell (p := ⟨b, j * 2 + 1, none⟩) hb).trans (hI j hj).2⟩) h0
end Go.Proofs.Ytilbpgcgjbblaaa
