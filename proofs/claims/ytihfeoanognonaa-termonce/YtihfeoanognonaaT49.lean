/-
 TermPlays: whatever is made, both tables have the same terms.
-/
import Derived.Test.YtihfeoanognonaaB6
import Derived.Test.YtihfeoanognonaaT46
namespace Go.Proofs.Ytihfeoanognonaa
open Go.RowKit
end Go.Proofs.Ytihfeoanognonaa
