/-
 publicOf, layHalf, layMade.
-/
import Derived.Test.YtihfeoanognonaaTU
namespace Go.Proofs.Ytihfeoanognonaa
open Go.RowKit
end Go.Proofs.Ytihfeoanognonaa
