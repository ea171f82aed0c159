/-
 lay: the rules of a term.
-/
import Derived.Test.YtihfeoanognonaaT15
namespace Go.Proofs.Ytihfeoanognonaa
open Go.RowKit
end Go.Proofs.Ytihfeoanognonaa
