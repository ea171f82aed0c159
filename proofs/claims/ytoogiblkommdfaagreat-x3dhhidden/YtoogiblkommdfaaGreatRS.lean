/-
  The reader of wire, held.
-/
import Derived.Test.YtoogiblkommdfaaGreatWA
import Derived.Test.YtoogiblkommdfaaGreatGF
namespace Go.Proofs.YtoogiblkommdfaaGreat.Rs
open Go.RowKit

end Go.Proofs.YtoogiblkommdfaaGreat.Rs
