/-
 Known.
-/
import Derived.Test.YtihfeoanognonaaT16
namespace Go.Proofs.Ytihfeoanognonaa
open Go.RowKit
end Go.Proofs.Ytihfeoanognonaa
