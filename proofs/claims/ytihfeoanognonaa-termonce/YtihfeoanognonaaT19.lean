/-
 Nil tables, what is told of a term.
-/
import Derived.Test.YtihfeoanognonaaTV
namespace Go.Proofs.Ytihfeoanognonaa
open Go.RowKit
end Go.Proofs.Ytihfeoanognonaa
