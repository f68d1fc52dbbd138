/- settle at impl.Parts. -/
import Derived.Test.YtomhmkdfhhmenaaTeeth
namespace Go.Proofs.Ytomhmkdfhhmenaa
open Go.RowKit
end Go.Proofs.Ytomhmkdfhhmenaa
