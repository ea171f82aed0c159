/-
 What is told of a term that was made.
-/
import Derived.Test.YtihfeoanognonaaGreatT19
namespace Go.Proofs.YtihfeoanognonaaGreat
open Go.RowKit
end Go.Proofs.YtihfeoanognonaaGreat
