/- Numbers drawn from bytes at once. -/
import Derived.Test.YtjeleemjckfjoaaSrc
namespace Go.Proofs.Ytjeleemjckfjoaa
open Go.RowKit
end Go.Proofs.Ytjeleemjckfjoaa
