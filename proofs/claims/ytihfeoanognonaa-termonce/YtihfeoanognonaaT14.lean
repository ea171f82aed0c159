/-
 spread: till nothing more comes.
-/
import Derived.Test.YtihfeoanognonaaT13
namespace Go.Proofs.Ytihfeoanognonaa
open Go.RowKit
end Go.Proofs.Ytihfeoanognonaa
