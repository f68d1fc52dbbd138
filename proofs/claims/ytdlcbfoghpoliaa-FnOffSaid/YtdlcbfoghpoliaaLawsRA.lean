/- The walks of laws over a train: RatioOf, DrivenCount. -/
import Derived.Test.YtdlcbfoghpoliaaDriven
import Derived.Test.YtdlcbfoghpoliaaLawsTO
namespace Go.Proofs.Ytdlcbfoghpoliaa
open Go.RowKit
theorem specRA_any (b n cap : Nat) (js : List (Int × Int)) (w : World) (hS : Pst w b js) (hn : n = js.length) (hbd : Bd16 js) :
    Calls Try.prog 6 #[.slice (some ⟨b, 0, none⟩) n cap] w (GivesB w (.tuple #[.agg #[.int .i64 (ratR js).1.1, .int .i64 (ratR js).1.2], .int .i64 (ratR js).2])) := specRat_any b n cap js w hS hn hbd
end Go.Proofs.Ytdlcbfoghpoliaa
