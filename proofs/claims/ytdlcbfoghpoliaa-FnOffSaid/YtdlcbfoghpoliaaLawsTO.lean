/- The walks of laws over a train: ValidTrain. -/
import Derived.Test.YtdlcbfoghpoliaaValT
import Derived.Test.YtdlcbfoghpoliaaMade
import Derived.Test.YtdlcbfoghpoliaaOpenR
namespace Go.Proofs.Ytdlcbfoghpoliaa
open Go.RowKit
theorem GivesB.ofDrew {w : World} {v : Value} {e : Ending} {w' : World} (h : e = .returned v ∧ ∃ d, w' = w.drewN d) : GivesB w v e w' := ⟨h.1, by obtain ⟨d, rfl⟩ := h.2; exact below_drewN (Below.refl _ _) d⟩
theorem implVT_any (b n cap : Nat) (js : List (Int × Int)) (w : World) (hS : Pst w b js) (hn : n = js.length) (hbd : Bd16 js) :
    Calls Try.prog 21 #[.slice (some ⟨b, 0, none⟩) n cap] w (GivesB w (.bool (okT js))) := implValidTrain_any b n cap js w hS hn hbd
end Go.Proofs.Ytdlcbfoghpoliaa
