/- The iterator over a log's intervals, as a range over it takes it. -/
import Derived.Test.YtilbpgcgjbblaaaItvN
import Derived.Test.YtilbpgcgjbblaaaItvS
namespace Go.Proofs.Ytilbpgcgjbblaaa
open Go.RowKit Go.Shelf
theorem itv_stopsN (F : Fence) (m : Nat) (hf : F.fn 62) (hro : F.round = none) (hm : 1 ≤ m) (Bs b n cap : Nat) (js : List (Int × Int)) (a : Option Addr) (ha : n = 0 ∨ a = some ⟨b, 0, none⟩) (hn : n = js.length) (hl : n ≤ 1048576) (w : World) (hBs : Bs < w.heap.size) (hb : b < w.heap.size)
    (hc : w.cell? ⟨Bs, 0, none⟩ = some (.slice a n cap)) (hI : ∀ j, j < n → w.cell? ⟨b, j * 2, none⟩ = some (.int .i64 (rd js j)) ∧ w.cell? ⟨b, j * 2 + 1, none⟩ = some (.int .i64 (rv js j))) :
    SeqStopsK F m Try.prog 62 #[.pointer (some ⟨Bs, 0, none⟩)] (fun x : Fin (n - 1) => itvA js x.1) (KeepB (fun g => g = b ∨ g = Bs)) (fun ys => ys = List.finRange (n - 1))
      (fun pre => ∃ k, k ≤ n - 1 ∧ pre = (List.finRange (n - 1)).take k) (n - 1) w := fun l J Jx W hW hA _ hY h0 => by
  exact itv1_inN F m hf hro hm l Bs b n cap js a ha hn hl J Jx hY (fun pre A B hj hg => hA pre A B none hj hg (fun r e => by cases e)) W ((hW.cell (p := ⟨Bs, 0, none⟩) hBs).trans hc)
    (fun j hj => ⟨(hW.cell (p := ⟨b, j * 2, none⟩) hb).trans (hI j hj).1, (hW.cell (p := ⟨b, j * 2 + 1, none⟩) hb).trans (hI j hj).2⟩) h0
end Go.Proofs.Ytilbpgcgjbblaaa
