/-
 Nil tables, what is told of a term.
-/
import Derived.Test.YtihfeoanognonaaGreatTV
namespace Go.Proofs.YtihfeoanognonaaGreat
open Go.RowKit
end Go.Proofs.YtihfeoanognonaaGreat
