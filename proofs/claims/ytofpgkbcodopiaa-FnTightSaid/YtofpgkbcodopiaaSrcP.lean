/- Numbers drawn from bytes at once. -/
import Derived.Test.YtofpgkbcodopiaaSrc
namespace Go.Proofs.Ytofpgkbcodopiaa
open Go.RowKit
end Go.Proofs.Ytofpgkbcodopiaa
