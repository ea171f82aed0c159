/-
 Of a table; Make of a text that is too long.
-/
import Derived.Test.YtihfeoanognonaaGreatT20
namespace Go.Proofs.YtihfeoanognonaaGreat
open Go.RowKit
end Go.Proofs.YtihfeoanognonaaGreat
