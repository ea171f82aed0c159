/-
 learn: a term is taken for known.
-/
import Derived.Test.YtihfeoanognonaaTQ
namespace Go.Proofs.Ytihfeoanognonaa
open Go.RowKit
end Go.Proofs.Ytihfeoanognonaa
