/-
 rule: a term is known, once all of these are.
-/
import Derived.Test.YtihfeoanognonaaTR
namespace Go.Proofs.Ytihfeoanognonaa
open Go.RowKit
end Go.Proofs.Ytihfeoanognonaa
